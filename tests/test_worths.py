import unittest
from fractions import Fraction
from math import gcd

from everycell.errors import NoWorth
from everycell.worths import (
    is_less, is_number, is_whole, is_whole_worth, is_worth, kind_of_worth, least, minus, most, number, over, plus, times,
)
from tests.things import GREAT, many_things, things

WHOLE = (0, 1, -1, 2, -2, 7, 10 ** 9, 10 ** 40, 10 ** 40 + 1, -10 ** 45, GREAT, -GREAT)
NUMBERS = (
    (0, 1), (1, 1), (-1, 1), (1, 2), (-1, 2), (3, 7), (-22, 7), (GREAT, 1), (-GREAT, 1), (1, GREAT), (-1, GREAT),
    (GREAT, 10 ** 41), (2 ** 70, 3 ** 50), (12, 35),
)
NO_NUMBERS = (
    (2, 4), (0, 2), (0, 0), (1, 0), (-1, 0), (1, -1), (1, -2), (-1, -1), (3, 3), (-2, 2), (2 * GREAT, 2), (6, 9),
    (True, 1), (False, 1), (1, True), (0, True), (True, True), (1, False), (True, 2), (2, True),
    (), (1,), (1, 1, 1), (1, 2, 3), (None, 1), (1, None), ("1", 1), (1, "1"), ((1, 1), 1), (1, (1, 1)), ((1, 1), (1, 1)),
    ((1, 1),), [1, 1], [1, 2], ([1], 1), ({}, {}), ("a", "b"), {1: 1}, {1, 2}, "12", b"12", range(1, 3),
)


def small_numbers():
    return [(top, bottom) for bottom in range(1, 7) for top in range(-7, 8) if gcd(top, bottom) == 1]


def as_pair(fraction):
    return (fraction.numerator, fraction.denominator)


class OfAnything(unittest.TestCase):
    def test_whole_numbers(self):
        for thing in WHOLE:
            self.assertIs(is_whole(thing), True, thing)

    def test_true_and_false_and_other_things_are_not_whole(self):
        for thing in [True, False] + [thing for thing in things() if type(thing) is not int] + list(NO_NUMBERS):
            self.assertIs(is_whole(thing), False, repr(thing))
        for thing in things():
            self.assertIs(is_whole(thing), type(thing) is int, repr(thing))

    def test_numbers(self):
        for thing in NUMBERS + tuple(small_numbers()):
            self.assertIs(is_number(thing), True, thing)
            self.assertIs(is_worth(thing), True, thing)

    def test_no_numbers(self):
        for thing in list(NO_NUMBERS) + things():
            self.assertIs(is_number(thing), False, repr(thing))
            self.assertIs(is_worth(thing), False, repr(thing))

    def test_truths_are_worths_and_no_numbers(self):
        for thing in (True, False):
            self.assertIs(is_number(thing), False)
            self.assertIs(is_worth(thing), True)

    def test_just_pairs_in_lowest_terms(self):
        for top in range(-12, 13):
            for bottom in range(-12, 13):
                due = bottom >= 1 and not [each for each in range(2, 13) if top % each == 0 and bottom % each == 0]
                self.assertIs(is_number((top, bottom)), due, (top, bottom))

    def test_things_are_not_changed(self):
        thing = [1, [2, 3]]
        for tell in (is_whole, is_number, is_worth):
            tell(thing)
        self.assertEqual(thing, [1, [2, 3]])

    def test_by_name(self):
        self.assertIs(is_whole(thing=3), True)
        self.assertIs(is_number(thing=(1, 3)), True)
        self.assertIs(is_worth(thing=False), True)


class OfWorths(unittest.TestCase):
    def test_kinds(self):
        for worth in NUMBERS:
            self.assertEqual(kind_of_worth(worth), "number")
        for worth in (True, False):
            self.assertEqual(kind_of_worth(worth), "truth")
        self.assertEqual(kind_of_worth(worth=True), "truth")

    def test_whole_ones(self):
        for worth in NUMBERS + tuple(small_numbers()):
            self.assertIs(is_whole_worth(worth), worth[1] == 1, worth)
        for worth in (True, False):
            self.assertIs(is_whole_worth(worth), False)
        self.assertIs(is_whole_worth(worth=(5, 1)), True)


class Number(unittest.TestCase):
    def test_lowest_terms_and_a_bottom_below_nought(self):
        for top in range(-12, 13):
            for bottom in [each for each in range(-12, 13) if each != 0]:
                self.assertEqual(number(top, bottom), as_pair(Fraction(top, bottom)), (top, bottom))

    def test_great_ones(self):
        self.assertEqual(number(6 * GREAT, -4 * GREAT), (-3, 2))
        self.assertEqual(number(-10 ** 50, -10 ** 45), (10 ** 5, 1))
        self.assertEqual(number(GREAT, GREAT + 1), (GREAT, GREAT + 1))

    def test_without_a_bottom(self):
        for top in WHOLE:
            self.assertEqual(number(top), (top, 1))

    def test_by_names(self):
        self.assertEqual(number(top=4, bottom=6), (2, 3))
        self.assertEqual(number(bottom=-6, top=4), (-2, 3))
        self.assertEqual(number(top=9), (9, 1))
        self.assertEqual(number(4, bottom=-2), (-2, 1))

    def test_what_is_told_is_a_number(self):
        for top in (0, 5, -6, GREAT):
            for bottom in (1, -1, 4, -GREAT):
                self.assertIs(is_number(number(top, bottom)), True)

    def test_no_worth_of_a_bottom_of_nought(self):
        for top in (0, 1, -1, GREAT):
            with self.assertRaises(NoWorth):
                number(top, 0)

    def test_no_worth_of_anything_but_whole_numbers(self):
        for thing in many_things() + [(1, 1), (1, 2), "1"]:
            if type(thing) is int:
                continue
            for handed in ((thing, 1), (1, thing), (thing, thing), (thing, 0), (thing,)):
                with self.assertRaises(NoWorth, msg=repr(thing)):
                    number(*handed)
            with self.assertRaises(NoWorth):
                number(top=1, bottom=thing)


class OfTwoNumbers(unittest.TestCase):
    def pairs(self):
        small = small_numbers()
        pairs = [(one, other) for one in small for other in small]
        return pairs + [(one, other) for one in NUMBERS for other in NUMBERS]

    def test_plus_minus_times(self):
        for one, other in self.pairs():
            left, right = Fraction(*one), Fraction(*other)
            self.assertEqual(plus(one, other), as_pair(left + right), (one, other))
            self.assertEqual(minus(one, other), as_pair(left - right), (one, other))
            self.assertEqual(times(one, other), as_pair(left * right), (one, other))

    def test_over(self):
        for one, other in self.pairs():
            if other[0] == 0:
                self.assertIsNone(over(one, other))
            else:
                self.assertEqual(over(one, other), as_pair(Fraction(*one) / Fraction(*other)), (one, other))

    def test_least_and_most(self):
        for one, other in self.pairs():
            left, right = Fraction(*one), Fraction(*other)
            self.assertEqual(least(one, other), as_pair(min(left, right)), (one, other))
            self.assertEqual(most(one, other), as_pair(max(left, right)), (one, other))

    def test_is_less(self):
        for one, other in self.pairs():
            self.assertIs(is_less(one, other), Fraction(*one) < Fraction(*other), (one, other))

    def test_fractions_that_cancel(self):
        self.assertEqual(plus((1, 6), (1, 3)), (1, 2))
        self.assertEqual(plus((1, 3), (-1, 3)), (0, 1))
        self.assertEqual(minus((5, 6), (1, 3)), (1, 2))
        self.assertEqual(minus((7, 5), (7, 5)), (0, 1))
        self.assertEqual(times((2, 3), (3, 2)), (1, 1))
        self.assertEqual(over((2, 3), (-4, 9)), (-3, 2))
        self.assertEqual(over((0, 1), (-4, 9)), (0, 1))
        self.assertIsNone(over((0, 1), (0, 1)))

    def test_by_names(self):
        one, other = (1, 2), (1, 3)
        self.assertEqual(plus(other=other, one=one), (5, 6))
        self.assertEqual(minus(other=other, one=one), (1, 6))
        self.assertEqual(times(other=other, one=one), (1, 6))
        self.assertEqual(over(other=other, one=one), (3, 2))
        self.assertEqual(least(other=other, one=one), (1, 3))
        self.assertEqual(most(other=other, one=one), (1, 2))
        self.assertIs(is_less(other=other, one=one), False)


if __name__ == "__main__":
    unittest.main()
