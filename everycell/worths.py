"""Worths: numbers, which are tuples (top, bottom) in lowest terms, and truths."""

from math import gcd

from everycell.errors import NoWorth


def is_whole(thing):
    """Tells of anything whether it is an int that is neither True nor False."""
    return isinstance(thing, int) and not isinstance(thing, bool)


def is_number(thing):
    """Tells of anything whether it is a number."""
    if not isinstance(thing, tuple) or len(thing) != 2:
        return False
    top, bottom = thing
    if not is_whole(top) or not is_whole(bottom):
        return False
    return bottom >= 1 and gcd(top, bottom) == 1


def is_worth(thing):
    """Tells of anything whether it is a number or a truth."""
    return isinstance(thing, bool) or is_number(thing)


def kind_of_worth(worth):
    """Tells the kind of a worth."""
    return "truth" if isinstance(worth, bool) else "number"


def is_whole_worth(worth):
    """Tells whether a worth is a number that is whole."""
    return not isinstance(worth, bool) and worth[1] == 1


def number(top, bottom=1):
    """Tells the number that is the top over the bottom."""
    if not is_whole(top) or not is_whole(bottom):
        raise NoWorth("a number is made of two whole numbers")
    if bottom == 0:
        raise NoWorth("no number is over nought")
    return _lowest(top, bottom)


def _lowest(top, bottom):
    """Tells the top over the bottom, which isn't nought, in lowest terms."""
    common = gcd(top, bottom) if bottom > 0 else -gcd(top, bottom)
    return (top // common, bottom // common)


def plus(one, other):
    """Tells the sum of two numbers."""
    return _lowest(one[0] * other[1] + other[0] * one[1], one[1] * other[1])


def minus(one, other):
    """Tells the first number less the other."""
    return _lowest(one[0] * other[1] - other[0] * one[1], one[1] * other[1])


def times(one, other):
    """Tells the product of two numbers."""
    return _lowest(one[0] * other[0], one[1] * other[1])


def least(one, other):
    """Tells the lesser one of two numbers."""
    return other if is_less(other, one) else one


def most(one, other):
    """Tells the greater one of two numbers."""
    return other if is_less(one, other) else one


def over(one, other):
    """Tells the first number by the other, None by nought."""
    if other[0] == 0:
        return None
    return _lowest(one[0] * other[1], one[1] * other[0])


def is_less(one, other):
    """Tells whether the first number is less than the other."""
    return one[0] * other[1] < other[0] * one[1]
