import unittest

from everycell.names import MOST_RANK, is_index_term, is_length, is_letter, is_name, is_shape
from tests.things import GREAT, many_things

SMALL = "abcdefghijklmnopqrstuvwxyz"
NO_SIGNS = "ABZ09_ -+*/@=,.;\n\t`{~\u00e9\u00df\u03b1\u0430\uff41\u00aa"
TERMS = (
    (0, ()), (5, ()), (-5, ()), (GREAT, ()), (0, (("n", 1),)), (-2, (("n", -3),)), (0, (("m", 1), ("n", 2))),
    (1, (("", 1),)), (1, (("i0", 1), ("v0", -1))), (1, (("A", 1), ("a", 1))), (1, (("a b", GREAT), ("a!", -GREAT), ("\u00e9", 7))),
    (0, (("a", 1), ("aa", 1), ("ab", 1), ("b", 1))), (0, (("10", 1), ("9", 1))), (0, (("", 1), ("n", 1))),
)
LENGTHS = (
    (0, ()), (5, ()), (GREAT, ()), (0, (("n", 1),)), (2, (("m", 3), ("n", 1))), (0, (("a", GREAT), ("z", 1))),
    (1, (("a", 1), ("b", 2), ("c", 3), ("d", 4), ("e", 5))),
)
NO_TERMS = (
    (), (0,), (0, (), ()), ((), 0), (0, None), (0, 0), (0, ""), (0, "n"), (0, []), (0, {}), [0, ()], (True, ()), (False, ()),
    (None, ()), ("0", ()), ((0, 1), ()), ([0], ()),
    (0, (("n", 0),)), (0, (("n", True),)), (0, (("n", False),)), (0, (("n", None),)), (0, (("n", "1"),)), (0, (("n", (1, 1)),)),
    (0, (("n", 1), ("m", 1))), (0, (("n", 1), ("n", 1))), (0, (("n", 1), ("n", 2))), (0, (("n", -1), ("n", 1))),
    (0, (("a", 1), ("c", 1), ("b", 1))), (0, (("a", 1), ("b", 1), ("b", 1))), (0, (("aa", 1), ("a", 1))), (0, (("a", 1), ("A", 1))),
    (0, (("a", 1), ("", 1))), (0, (("n", 1), ("m", 0))), (0, (("m", 1), ("n", 0))),
    (0, [("n", 1)]), (0, (["n", 1],)), (0, (("n",),)), (0, (("n", 1, 1),)), (0, ("n", 1)), (0, ("n1",)), (0, ((),)), (0, (None,)),
    (0, ((1, 1),)), (0, ((None, 1),)), (0, ((b"n", 1),)), (0, ((("n",), 1),)), (0, ((["n"], 1),)), (0, (({}, 1),)),
    (0, {"n": 1}), (0, ((True, 1),)), (0, (("n", 1), None)), (0, (("n", [1]),)), (0, (("m", 1), (1, 1))), (0, ((1, 1), ("m", 1))),
)
NO_LENGTHS = (
    (-1, ()), (-GREAT, ()), (0, (("n", -1),)), (5, (("m", 1), ("n", -1))), (5, (("m", -1), ("n", 1))), (-1, (("n", 1),)),
    (0, (("nn", 1),)), (0, (("", 1),)), (0, (("N", 1),)), (0, (("i0", 1),)), (0, (("1", 1),)), (0, (("\u00e9", 1),)),
    (0, (("m", 1), ("nn", 1))), (0, (("A", 1), ("a", 1))),
)


class Names(unittest.TestCase):
    def test_texts_of_one_to_six_small_letters(self):
        for many in range(1, 7):
            for letter in SMALL:
                self.assertIs(is_name(letter * many), True)
        for thing in ("a", "z", "ab", "zz", "input", "number", "azazaz", "from", "of"):
            self.assertIs(is_name(thing), True, thing)

    def test_none_and_more_letters(self):
        for thing in ("", "a" * 7, "abcdefg", "a" * 100):
            self.assertIs(is_name(thing), False, thing)

    def test_other_signs_wherever_they_stand(self):
        for sign in NO_SIGNS:
            for thing in (sign, "a" + sign, sign + "a", "a" + sign + "a", sign * 6, "abcde" + sign):
                self.assertIs(is_name(thing), False, repr(thing))

    def test_other_things(self):
        for thing in many_things() + [("a",), ["a"], {"a"}, {"a": "a"}, b"a", ("a", "b"), ["a", "b"], (), []]:
            self.assertIs(is_name(thing), False, repr(thing))
        self.assertIs(is_name(thing="abc"), True)


class Letters(unittest.TestCase):
    def test_each_small_letter(self):
        for letter in SMALL:
            self.assertIs(is_letter(letter), True)
        self.assertIs(is_letter(thing="n"), True)

    def test_other_signs_and_other_lengths(self):
        for sign in NO_SIGNS:
            self.assertIs(is_letter(sign), False, repr(sign))
        for thing in ("", "ab", "aa", "abc", "a ", " a", "n1"):
            self.assertIs(is_letter(thing), False, thing)

    def test_other_things(self):
        for thing in many_things() + [("a",), ["a"], {"a"}, {"a": 1}, b"a"]:
            self.assertIs(is_letter(thing), False, repr(thing))


class IndexTerms(unittest.TestCase):
    def test_with_texts_of_any_kind_as_names(self):
        for term in TERMS + LENGTHS + NO_LENGTHS:
            self.assertIs(is_index_term(term), True, term)
        self.assertIs(is_index_term(thing=(1, (("n", 2),))), True)

    def test_what_is_none(self):
        for thing in list(NO_TERMS) + many_things():
            self.assertIs(is_index_term(thing), False, repr(thing))


class Lengths(unittest.TestCase):
    def test_with_letters_and_no_number_below_nought(self):
        for length in LENGTHS:
            self.assertIs(is_length(length), True, length)
        self.assertIs(is_length(thing=(1, (("n", 2),))), True)

    def test_what_is_none(self):
        for thing in list(NO_LENGTHS) + list(NO_TERMS) + many_things():
            self.assertIs(is_length(thing), False, repr(thing))


class Shapes(unittest.TestCase):
    def test_the_greatest_rank(self):
        self.assertEqual(MOST_RANK, 3)
        self.assertIs(type(MOST_RANK), int)

    def test_none_to_three_lengths(self):
        for length in LENGTHS:
            for many in range(4):
                self.assertIs(is_shape((length,) * many), True)
        self.assertIs(is_shape(LENGTHS[:3]), True)
        self.assertIs(is_shape(thing=()), True)

    def test_four_lengths_and_more(self):
        for length in LENGTHS:
            for many in (4, 5, 12):
                self.assertIs(is_shape((length,) * many), False)

    def test_what_is_no_length_wherever_it_stands(self):
        n = (0, (("n", 1),))
        for thing in list(NO_LENGTHS) + list(NO_TERMS) + many_things():
            for shape in ((thing,), (thing, n), (n, thing), (n, n, thing), (n, thing, n), (thing, n, n)):
                self.assertIs(is_shape(shape), False, repr(shape))

    def test_other_things(self):
        n = (0, (("n", 1),))
        for thing in many_things() + [[], [n], [n, n], {n: n}, {n}, n, "n", "nm"]:
            self.assertIs(is_shape(thing), False, repr(thing))

    def test_things_are_not_changed(self):
        thing = [0, [["n", 1]]]
        for tell in (is_name, is_letter, is_index_term, is_length, is_shape):
            tell(thing)
        self.assertEqual(thing, [0, [["n", 1]]])


if __name__ == "__main__":
    unittest.main()
