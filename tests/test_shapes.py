import unittest
from itertools import product
from random import Random

from everycell.errors import NoFit
from everycell.shapes import fits, least_lengths, look_at_fit, shapes_by, wishes_of
from everycell.signs import read
from tests.things import any_fitting, any_text, assert_no_text_first

GREAT = 10 ** 20 - 3
N, M, K = (0, (("n", 1),)), (0, (("m", 1),)), (0, (("k", 1),))
NOUGHT = (0, ())

# Of each deed what it makes of these inputs.
INPUTS = "input a number n m\ninput b number n m\ninput c number m n\ninput t truth n m\ninput u number n\ninput s number"
MADE = (
    ("map @0 of s", ()), ("map @0 of u", (N,)), ("map less @0 @1 of a b", (N, M)), ("map 1 of c a b", (M, N)),
    ("count 0 of n", (N,)), ("count 1 of 3 k+n", ((3, ()), (0, (("k", 1), ("n", 1))))), ("count 2 of 0 m n", (NOUGHT, M, N)),
    ("spread s 0 k", (K,)), ("spread u 0 k", (K, N)), ("spread u 1 k", (N, K)), ("spread a 0 2+k", ((2, (("k", 1),)), N, M)), ("spread a 1 0", (N, NOUGHT, M)), ("spread a 2 n", (N, M, N)),
    ("turn s -", ()), ("turn u 0", (N,)), ("turn a 0,1", (N, M)), ("turn a 1,0", (M, N)),
    ("part a 0 0 k", (K, M)), ("part a 1 7 3*n", (N, (0, (("n", 3),)))), ("part u 0 n 0", (NOUGHT,)),
    ("join u u 0", ((0, (("n", 2),)),)), ("join a b 0", ((0, (("n", 2),)), M)), ("join a c 1", (N, (0, (("m", 1), ("n", 1))))), ("join c a 0", ((0, (("m", 1), ("n", 1))), N)),
    ("fold plus @0 @1 from 0 of u 0", ()), ("fold plus @0 @1 from 0 of a 0", (M,)), ("fold plus @0 @1 from 0 of a 1", (N,)), ("fold @0 from yes of c 1", (M,)),
    ("run plus @0 @1 from 0 of u 0", (N,)), ("run not @0 from no of a 0", (N, M)), ("run plus @0 @1 from 0 of a 1", (N, M)),
    ("where t a b", (N, M)), ("where t c a", (N, M)),
    ("pick u s", ()), ("pick a s", (M,)), ("pick c s", (N,)), ("pick u u", (N,)), ("pick u a", (N, M)), ("pick a u", (N, M)), ("pick a c", (M, N, M)), ("pick c a", (N, M, N)),
    ("put u u u", (N,)), ("put u u u by plus @0 @1", (N,)),
)


def text_of(*rows, inputs=INPUTS):
    return read("\n".join([inputs, *rows]))


def no_fit(ask, text):
    try:
        ask(text)
    except NoFit as caught:
        return caught.row
    return None


class Shapes(unittest.TestCase):
    def test_of_each_deed(self):
        for deed, shape in MADE:
            text = text_of(f"x = {deed}")
            if fits(text):
                self.assertEqual(shapes_by(text)["x"], shape, deed)
            # What is wished of parts of it shows its shape, too, of what doesn't fit.
            more = text_of(f"x = {deed}", *["y" * (axis + 2) + f" = part x {axis} 0 0" for axis in range(len(shape))])
            own = [term for row, word, term in wishes_of(more) if row > 0]
            self.assertEqual(own, list(shape), deed)

    def test_of_three_axes_turned_about(self):
        text = text_of("g = spread a 0 k", "h = turn g 2,0,1", "j = turn h 1,2,0", "p = part h 2 n 0", "q = join h h 1", "f = fold plus @0 @1 from 0 of h 1", "r = run @1 from 0 of h 2")
        told = shapes_by(text)
        self.assertEqual([told[name] for name in "ghjpqfr"], [
            (K, N, M), (M, K, N), (K, N, M), (M, K, NOUGHT), (M, (0, (("k", 2),)), N), (M, N), (M, K, N)])

    def test_of_put_it_is_the_source_s(self):
        text = text_of("v = put w u u", inputs="input w number m\ninput u number n")
        self.assertEqual(shapes_by(text), {"w": (M,), "u": (N,), "v": (M,)})

    def test_all_names_in_order(self):
        text = text_of("z = turn a 1,0", "y = turn z 1,0", "x = fold plus @0 @1 from 0 of y 0")
        self.assertEqual(list(shapes_by(text).items()), [
            ("a", (N, M)), ("b", (N, M)), ("c", (M, N)), ("t", (N, M)), ("u", (N,)), ("s", ()), ("z", (M, N)), ("y", (N, M)), ("x", (M,))])
        self.assertEqual(shapes_by(((), ())), {})
        self.assertEqual(shapes_by(text=((), (("x", ("count", (N,), 0)),))), {"x": (N,)})

    def test_told_anew(self):
        text = text_of("z = turn a 1,0")
        told = shapes_by(text)
        told["z"] = ()
        told["q"] = 1
        self.assertEqual(shapes_by(text)["z"], (M, N))
        self.assertNotIn("q", shapes_by(text))

    def test_refused_where_the_text_does_not_fit(self):
        text = text_of("x = turn a 1,0", "y = map @0 of x a", "z = map @0 of a c")
        self.assertEqual(no_fit(shapes_by, text), 1)

    def test_chance_texts_that_fit(self):
        for seed in range(300):
            text, known = any_fitting(Random(seed))
            self.assertEqual(list(shapes_by(text).items()), [(name, shape) for name, (_, shape) in known.items()])
            self.assertTrue(fits(text))
            self.assertIsNone(look_at_fit(text))
            self.assertIsNone(least_lengths(text))

    def test_no_text(self):
        for ask in (wishes_of, fits, least_lengths, look_at_fit, shapes_by):
            assert_no_text_first(self, ask)
            assert_no_text_first(self, lambda thing: ask(text=thing))


class Wishes(unittest.TestCase):
    def wishes(self, *rows, inputs=INPUTS):
        return wishes_of(text_of(*rows, inputs=inputs))

    def test_of_nothing(self):
        self.assertEqual(wishes_of(((), ())), [])
        self.assertEqual(self.wishes("x = map @0 of a", "y = count 0 of n m", "z = spread u 1 n", "w = turn a 1,0", "v = fold @0 from 0 of a 1", "r = run @0 from 0 of a 0", "p = pick a s"), [])

    def test_of_map(self):
        like = (0, (("m", -1), ("n", 1)))
        other = (0, (("m", 1), ("n", -1)))
        self.assertEqual(self.wishes("x = map @0 of a c"), [(0, "like", like), (0, "like", other)])
        self.assertEqual(self.wishes("x = map @0 of a b"), [(0, "like", NOUGHT), (0, "like", NOUGHT)])
        self.assertEqual(self.wishes("x = map @0 of a c b"), [(0, "like", like), (0, "like", other), (0, "like", NOUGHT), (0, "like", NOUGHT)])
        self.assertEqual(self.wishes("x = map @0 of c b c"), [(0, "like", other), (0, "like", like), (0, "like", NOUGHT), (0, "like", NOUGHT)])
        self.assertEqual(self.wishes("x = map @0 of s s"), [])

    def test_of_where(self):
        like, other = (0, (("m", -1), ("n", 1))), (0, (("m", 1), ("n", -1)))
        self.assertEqual(self.wishes("x = where t c a"), [(0, "like", like), (0, "like", other), (0, "like", NOUGHT), (0, "like", NOUGHT)])
        self.assertEqual(self.wishes("x = where t a c"), [(0, "like", NOUGHT), (0, "like", NOUGHT), (0, "like", like), (0, "like", other)])

    def test_of_part(self):
        self.assertEqual(self.wishes("x = part a 0 2 3"), [(0, "least", (-5, (("n", 1),)))])
        self.assertEqual(self.wishes("x = part a 1 n 3*m"), [(0, "least", (0, (("m", -2), ("n", -1))))])
        self.assertEqual(self.wishes("x = part u 0 0 n", "y = part x 0 n 0"), [(0, "least", NOUGHT), (1, "least", NOUGHT)])

    def test_of_join(self):
        inputs = "input a number n m 2\ninput b number k 3 m"
        first, middle, last = (0, (("k", -1), ("n", 1))), (-3, (("m", 1),)), (2, (("m", -1),))
        self.assertEqual(self.wishes("x = join a b 0", inputs=inputs), [(0, "like", middle), (0, "like", last)])
        self.assertEqual(self.wishes("x = join a b 1", inputs=inputs), [(0, "like", first), (0, "like", last)])
        self.assertEqual(self.wishes("x = join a b 2", inputs=inputs), [(0, "like", first), (0, "like", middle)])
        self.assertEqual(self.wishes("x = join u u 0"), [])

    def test_of_put(self):
        inputs = "input a number n\ninput b number 2*m\ninput c number 5"
        self.assertEqual(self.wishes("x = put a b c", inputs=inputs), [(0, "like", (-5, (("m", 2),)))])
        self.assertEqual(self.wishes("x = put a c b by plus @0 @1", inputs=inputs), [(0, "like", (5, (("m", -2),)))])
        self.assertEqual(self.wishes("x = put c a a", inputs=inputs), [(0, "like", NOUGHT)])

    def test_rows_in_order_with_shapes_as_far_as_made(self):
        self.assertEqual(self.wishes("x = turn a 1,0", "y = map @0 of x c", "z = join x x 0", "w = part z 0 m m", "v = put u u u"), [
            (1, "like", NOUGHT), (1, "like", NOUGHT), (2, "like", NOUGHT), (3, "least", NOUGHT), (4, "like", NOUGHT)])

    def test_told_anew(self):
        text = text_of("x = map @0 of a c")
        told = wishes_of(text)
        kept = list(told)
        told.clear()
        self.assertEqual(wishes_of(text), kept)
        self.assertIsInstance(wishes_of(text=text), list)

    def test_of_what_does_not_fit(self):
        self.assertEqual(len(self.wishes("x = map @0 of a c", "y = part x 0 n n", "z = map @0 of y y")), 5)


class Fits(unittest.TestCase):
    def assert_first(self, row, *rows, inputs=INPUTS):
        """A text doesn't fit, first by this row; fits where it is None."""
        text = text_of(*rows, inputs=inputs)
        self.assertIs(fits(text), row is None)
        self.assertEqual(no_fit(look_at_fit, text), row)
        self.assertEqual(no_fit(shapes_by, text), row)
        self.assertIs(least_lengths(text) is None, row is None)

    def test_by_a_first_a_middle_and_a_last_row(self):
        self.assert_first(0, "x = map @0 of a c", "y = map @0 of a b", "z = map @0 of a b")
        self.assert_first(1, "x = map @0 of a b", "y = map @0 of a c", "z = map @0 of a b")
        self.assert_first(2, "x = map @0 of a b", "y = map @0 of a b", "z = map @0 of a c")
        self.assert_first(0, "x = map @0 of a c", "y = map @0 of a c")

    def test_each_deed(self):
        self.assert_first(None, "x = where t a b")
        self.assert_first(0, "x = where t a c")
        self.assert_first(0, "x = where t c c")
        self.assert_first(None, "x = join a b 1")
        self.assert_first(0, "x = join a c 1")
        self.assert_first(None, "x = put u u u")
        self.assert_first(0, "x = put u u v", inputs="input u number n\ninput v number m")
        self.assert_first(None, "x = part a 0 0 n")
        self.assert_first(None, "x = part a 0 n 0")
        self.assert_first(0, "x = part a 0 1 n")
        self.assert_first(0, "x = part a 0 n 1")
        self.assert_first(0, "x = part a 0 1 0")
        self.assert_first(0, "x = part a 0 0 m")
        self.assert_first(0, "x = map @0 of a a c")

    def test_index_terms_like_for_some_lengths_alone_do_not_fit(self):
        self.assert_first(0, "x = map @0 of u v", inputs="input u number n\ninput v number 2*n")
        self.assert_first(0, "x = map @0 of u v", inputs="input u number 2\ninput v number n")
        self.assert_first(None, "x = map @0 of u v", inputs="input u number 2+n\ninput v number 2+n")

    def test_of_nothing(self):
        self.assertIs(fits(((), ())), True)
        self.assertIsNone(look_at_fit(((), ())))
        self.assertIsNone(least_lengths(((), ())))
        self.assertIs(fits(text=text_of("x = turn a 1,0")), True)


def least_by_trying(text, letters, most):
    """The least lengths, together up to most, as 3.2 tells them, by trying all."""
    wishes = wishes_of(text)
    points = sorted([point for point in product(range(most + 1), repeat=len(letters)) if sum(point) <= most], key=lambda point: (sum(point), point))
    for point in points:
        lengths = dict(zip(letters, point))
        for row, word, (const, parts) in wishes:
            worth = const + sum(many * lengths[name] for name, many in parts)
            if worth < 0 or (word == "like" and worth):
                return lengths, row
    return None


class LeastLengths(unittest.TestCase):
    def least(self, *rows, inputs=INPUTS):
        return least_lengths(text_of(*rows, inputs=inputs))

    def test_none_where_it_fits(self):
        self.assertIsNone(self.least("x = part u 0 0 n", "y = map @0 of a b"))

    def test_without_letters(self):
        self.assertEqual(self.least("x = part a 0 2 2", inputs="input a number 3"), ({}, 0))
        self.assertEqual(self.least("x = turn a 0", "y = map @0 of a b", inputs="input a number 3\ninput b number 4"), ({}, 1))
        self.assertIsNone(self.least("x = part a 0 2 1", inputs="input a number 3"))

    def test_noughts_where_a_const_is_enough(self):
        self.assertEqual(self.least("x = part u 0 0 1"), ({"m": 0, "n": 0}, 0))
        self.assertEqual(self.least("x = map @0 of u v", inputs="input u number n\ninput v number 1+n"), ({"n": 0}, 0))

    def test_of_like_the_last_letter_s_one(self):
        self.assertEqual(self.least("x = map @0 of a c"), ({"m": 0, "n": 1}, 0))
        self.assertEqual(self.least("x = map @0 of u v", inputs="input u number a+b\ninput v number a+c\ninput w number d"), ({"a": 0, "b": 0, "c": 1, "d": 0}, 0))
        self.assertEqual(self.least("x = map @0 of u v", inputs="input u number 2*a+d\ninput v number d\ninput w number c"), ({"a": 1, "c": 0, "d": 0}, 0))

    def test_of_least_as_few_as_can_be(self):
        self.assertEqual(self.least("x = part u 0 m 3*k", inputs="input u number 7+n"), ({"k": 3, "m": 0, "n": 0}, 0))
        self.assertEqual(self.least("x = part u 0 m 3*k", inputs="input u number 8+n"), ({"k": 3, "m": 0, "n": 0}, 0))
        self.assertEqual(self.least("x = part u 0 m 3*k", inputs="input u number 9+n"), ({"k": 3, "m": 1, "n": 0}, 0))
        self.assertEqual(self.least("x = part u 0 3*m k", inputs="input u number 9+n"), ({"k": 0, "m": 4, "n": 0}, 0))
        self.assertEqual(self.least("x = part u 0 2*k 2*m", inputs="input u number 5+n"), ({"k": 0, "m": 3, "n": 0}, 0))

    def test_of_several_rows_the_least_sum_first(self):
        inputs = "input u number 5+n\ninput v number n"
        self.assertEqual(self.least("x = part u 0 0 2*m", "y = part v 0 0 m", inputs=inputs), ({"m": 1, "n": 0}, 1))
        self.assertEqual(self.least("x = part u 0 0 2*m", "y = part u 0 0 3*m", inputs=inputs), ({"m": 2, "n": 0}, 1))
        self.assertEqual(self.least("x = part v 0 0 m", "y = map @0 of u v", inputs=inputs), ({"m": 0, "n": 0}, 1))

    def test_of_several_rows_by_one_the_first_row(self):
        self.assertEqual(self.least("z = turn u 0", "x = part u 0 0 m", "y = part u 0 0 2*m"), ({"m": 1, "n": 0}, 1))
        # The least tuple falls by the later row's wish alone.
        self.assertEqual(self.least("x = part u 0 0 m", "y = part s 0 0 2*m", inputs="input u number n\ninput s number k"), ({"k": 0, "m": 1, "n": 0}, 0))
        self.assertEqual(self.least("x = map @0 of p q", "y = map @0 of q r", inputs="input p number a\ninput q number b\ninput r number c"), ({"a": 0, "b": 0, "c": 1}, 1))

    def test_numbers_of_twenty_figures(self):
        inputs = f"input u number {GREAT}+n"
        self.assertEqual(self.least("x = part u 0 0 m", inputs=inputs), ({"m": GREAT + 1, "n": 0}, 0))
        self.assertEqual(self.least("x = part u 0 k 3*m", inputs=inputs), ({"k": 0, "m": GREAT // 3 + 1, "n": 0}, 0))
        self.assertEqual(self.least(f"x = part u 0 k {GREAT}*m", inputs=inputs), ({"k": 0, "m": 2, "n": 0}, 0))
        self.assertEqual(self.least("x = part u 0 0 3*m+2*z", inputs=f"input u number {3 * GREAT}+n"), ({"m": GREAT - 1, "n": 0, "z": 2}, 0))
        self.assertEqual(self.least("x = part u 0 0 2*m+3*z", inputs=f"input u number {3 * GREAT + 1}+n"), ({"m": 0, "n": 0, "z": GREAT + 1}, 0))

    def test_four_letters_all_in_the_dict_in_order(self):
        told = self.least("x = part u 0 d c", inputs="input u number 3+b\ninput v number a")
        self.assertEqual(list(told[0].items()), [("a", 0), ("b", 0), ("c", 0), ("d", 4)])
        told[0]["a"] = 7
        self.assertEqual(self.least("x = part u 0 d c", inputs="input u number 3+b\ninput v number a")[0]["a"], 0)
        self.assertEqual(least_lengths(text=text_of("x = part u 0 0 1"))[1], 0)

    def test_beside_trying(self):
        met = 0
        for seed in range(800):
            chance = Random(seed)

            def length(most):
                parts = [f"{chance.randint(1, 4)}*{letter}".replace("1*", "") for letter in "abcd" if chance.random() < 0.4]
                return "+".join([str(chance.randint(1, most))] + parts)
            rows = [f"x = part u 0 {length(3)} {length(3)}", f"y = part w 0 {length(2)} {length(3)}", f"z = map @0 of {chance.choice('uv')} {chance.choice('vw')}"]
            text = read("\n".join([f"input u number {length(9)}", f"input v number {length(3)}", f"input w number {length(12)}", *chance.sample(rows, chance.randint(1, 2))]))
            letters = sorted({name for _, _, shape in text[0] for _, parts in shape for name, _ in parts} | {name for _, deed in text[1] if deed[0] == "part" for _, parts in deed[3:] for name, _ in parts})
            told = least_lengths(text)
            found = least_by_trying(text, letters, 6)
            if found is not None or told is None:
                met += 1
                self.assertEqual(told, found)
            else:
                self.assertGreater(sum(told[0].values()), 6)
        self.assertGreater(met, 500)

    def test_chance_texts(self):
        for seed in range(200):
            text, _ = any_text(Random(seed))
            told = least_lengths(text)
            self.assertIs(fits(text), told is None)
            if told is not None:
                lengths, row = told
                worths = [(number, word, const + sum(many * lengths[name] for name, many in parts)) for number, word, (const, parts) in wishes_of(text)]
                self.assertEqual(row, [number for number, word, worth in worths if worth < 0 or (word == "like" and worth)][0])


if __name__ == "__main__":
    unittest.main()
