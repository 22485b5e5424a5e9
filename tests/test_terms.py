import unittest
from random import Random

from everycell.names import is_index_term
from everycell.terms import (
    added, constant, is_from_nought, is_nought, of_name, put_in, scaled, taken, worth_of,
)

GREAT = 10 ** 20 - 3
NAMES = ("n", "m", "a", "i0", "i1", "v0", "", "A", "nn", "b c")


def any_term(chance):
    names = sorted(chance.sample(NAMES, chance.randint(0, 4)))
    return (any_whole(chance), tuple((name, any_whole(chance) or 1) for name in names))


def any_whole(chance):
    return chance.choice([0, 0, 1, 1, -1, 2, -3, 7, GREAT, -GREAT, chance.randint(-9, 9)])


class Made(unittest.TestCase):
    def test_constant(self):
        for number in (0, 1, -1, 7, GREAT, -GREAT):
            self.assertEqual(constant(number), (number, ()))
        self.assertEqual(constant(number=4), (4, ()))

    def test_of_name(self):
        for name in NAMES:
            self.assertEqual(of_name(name), (0, ((name, 1),)))
        self.assertEqual(of_name(name="v7"), (0, (("v7", 1),)))


class Reckoned(unittest.TestCase):
    def test_added(self):
        self.assertEqual(added((1, (("n", 2),)), (2, (("m", 1), ("n", 3)))), (3, (("m", 1), ("n", 5))))
        self.assertEqual(added((0, ()), (0, ())), (0, ()))
        self.assertEqual(added((5, ()), (0, (("z", 1),))), (5, (("z", 1),)))

    def test_names_that_cancel(self):
        one = (4, (("a", 1), ("m", -2), ("n", GREAT)))
        self.assertEqual(added(one, (-4, (("a", -1), ("m", 2), ("n", -GREAT)))), (0, ()))
        self.assertEqual(added(one, (0, (("m", 2),))), (4, (("a", 1), ("n", GREAT))))
        self.assertEqual(taken(one, one), (0, ()))
        self.assertEqual(taken(one, (4, (("n", GREAT),))), (0, (("a", 1), ("m", -2))))

    def test_names_are_sorted(self):
        self.assertEqual(added(of_name("n"), of_name("m")), (0, (("m", 1), ("n", 1))))
        self.assertEqual(added(of_name("b"), added(of_name("c"), of_name("a"))), (0, (("a", 1), ("b", 1), ("c", 1))))
        self.assertEqual(taken(of_name("n"), of_name("m")), (0, (("m", -1), ("n", 1))))
        self.assertEqual(added(of_name("aa"), of_name("B")), (0, (("B", 1), ("aa", 1))))

    def test_scaled(self):
        term = (3, (("m", -1), ("n", 2)))
        self.assertEqual(scaled(term, 2), (6, (("m", -2), ("n", 4))))
        self.assertEqual(scaled(term, 1), term)
        self.assertEqual(scaled(term, -1), (-3, (("m", 1), ("n", -2))))
        self.assertEqual(scaled(term, 0), (0, ()))
        self.assertEqual(scaled(term, GREAT), (3 * GREAT, (("m", -GREAT), ("n", 2 * GREAT))))

    def test_taken(self):
        self.assertEqual(taken((1, (("n", 2),)), (2, (("m", 1), ("n", 3)))), (-1, (("m", -1), ("n", -1))))
        self.assertEqual(taken((0, ()), (5, (("n", 1),))), (-5, (("n", -1),)))
        self.assertEqual(taken((GREAT, ()), (-GREAT, ())), (2 * GREAT, ()))

    def test_by_names(self):
        one, other = (1, (("n", 2),)), (2, (("m", 1),))
        self.assertEqual(added(other=other, one=one), (3, (("m", 1), ("n", 2))))
        self.assertEqual(taken(other=other, one=one), (-1, (("m", -1), ("n", 2))))
        self.assertEqual(scaled(many=3, term=one), (3, (("n", 6),)))

    def test_by_worths(self):
        chance = Random(4)
        for _ in range(600):
            one, other, many = any_term(chance), any_term(chance), any_whole(chance)
            numbers = {name: any_whole(chance) for name in NAMES}
            left, right = worth_of(one, numbers), worth_of(other, numbers)
            for told, due in ((added(one, other), left + right), (taken(one, other), left - right), (scaled(one, many), left * many)):
                self.assertTrue(is_index_term(told), told)
                self.assertEqual(worth_of(told, numbers), due)


class PutIn(unittest.TestCase):
    def test_names_exchanged(self):
        term = (1, (("m", 2), ("n", -3)))
        self.assertEqual(put_in(term, {"m": (5, (("a", 1),)), "n": (1, (("b", 2),))}), (8, (("a", 2), ("b", -6))))
        self.assertEqual(put_in(term, {"m": constant(4), "n": constant(-1)}), (12, ()))

    def test_all_at_once(self):
        term = (1, (("m", 2), ("n", -3)))
        self.assertEqual(put_in(term, {"m": of_name("n"), "n": of_name("m")}), (1, (("m", -3), ("n", 2))))
        self.assertEqual(put_in(of_name("n"), {"n": (1, (("n", 1),))}), (1, (("n", 1),)))
        by = {"m": (0, (("m", 1), ("n", 1))), "n": (2, (("m", 1), ("n", 1)))}
        self.assertEqual(put_in(term, by), (-5, (("m", -1), ("n", -1))))

    def test_names_that_are_not_in_it_stay(self):
        term = (1, (("m", 2), ("n", -3)))
        self.assertEqual(put_in(term, {}), term)
        self.assertEqual(put_in(term, {"a": of_name("b")}), term)
        self.assertEqual(put_in(term, {"m": of_name("a")}), (1, (("a", 2), ("n", -3))))
        self.assertEqual(put_in(term, {"n": of_name("m")}), (1, (("m", -1),)))

    def test_names_that_cancel(self):
        self.assertEqual(put_in((0, (("m", 1), ("n", 1))), {"m": (7, (("n", -1),))}), (7, ()))
        self.assertEqual(put_in((0, (("m", 1), ("n", -1))), {"m": of_name("a"), "n": of_name("a")}), (0, ()))
        self.assertEqual(put_in(of_name("n"), {"n": (0, ())}), (0, ()))

    def test_the_dict_stays(self):
        by = {"n": (1, (("m", 1),)), "m": (0, ())}
        term = (1, (("m", 2), ("n", -3)))
        put_in(term, by)
        self.assertEqual(by, {"n": (1, (("m", 1),)), "m": (0, ())})
        self.assertEqual(list(by), ["n", "m"])
        self.assertEqual(put_in(by=by, term=term), (-2, (("m", -3),)))

    def test_by_worths(self):
        chance = Random(5)
        for _ in range(600):
            term = any_term(chance)
            by = {name: any_term(chance) for name in chance.sample(NAMES, chance.randint(0, 5))}
            numbers = {name: any_whole(chance) for name in NAMES}
            led = {name: worth_of(by[name], numbers) if name in by else numbers[name] for name in NAMES}
            told = put_in(term, by)
            self.assertTrue(is_index_term(told), told)
            self.assertEqual(worth_of(told, numbers), worth_of(term, led), (term, by))


class Worth(unittest.TestCase):
    def test_by_numbers_for_its_names(self):
        numbers = {"n": 4, "m": -GREAT, "a": 100}
        self.assertEqual(worth_of((5, ()), numbers), 5)
        self.assertEqual(worth_of((5, ()), {}), 5)
        self.assertEqual(worth_of((1, (("m", 2), ("n", -3))), numbers), 1 - 2 * GREAT - 12)
        self.assertEqual(worth_of((0, (("n", GREAT),)), {"n": GREAT}), GREAT * GREAT)
        self.assertEqual(numbers, {"n": 4, "m": -GREAT, "a": 100})
        self.assertEqual(worth_of(numbers={"n": 2}, term=of_name("n")), 2)


class Told(unittest.TestCase):
    def test_nought(self):
        self.assertIs(is_nought((0, ())), True)
        self.assertIs(is_nought(taken(of_name("n"), of_name("n"))), True)
        for term in ((1, ()), (-1, ()), (GREAT, ()), (0, (("n", 1),)), (0, (("n", -1),)), (-1, (("n", 1),)), (0, (("m", 1), ("n", -1)))):
            self.assertIs(is_nought(term), False, term)
        self.assertIs(is_nought(term=(0, ())), True)

    def test_from_nought_on(self):
        for term in ((0, ()), (1, ()), (GREAT, ()), (0, (("n", 1),)), (3, (("m", GREAT), ("n", 2)))):
            self.assertIs(is_from_nought(term), True, term)
        for term in (
            (-1, ()), (-GREAT, ()), (0, (("n", -1),)), (GREAT, (("n", -1),)), (-1, (("n", 1),)), (-1, (("n", GREAT),)),
            (0, (("m", -1), ("n", GREAT))), (0, (("m", GREAT), ("n", -1))), (5, (("a", 1), ("m", -1), ("n", 1))),
        ):
            self.assertIs(is_from_nought(term), False, term)
        self.assertIs(is_from_nought(term=(-1, ())), False)


if __name__ == "__main__":
    unittest.main()
