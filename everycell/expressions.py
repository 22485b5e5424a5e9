"""Expressions: what is worked out of args, which are worths."""

from everycell.worths import is_less, is_number, is_whole, least, minus, most, over, plus, times

MOST_WITHIN = 8
LEAVES = ("arg", "number", "truth")
OF_NUMBERS = ("plus", "minus", "times", "over", "least", "most")
# By the word of each operation how many parts it has.
OPERATIONS = {
    "plus": 2, "minus": 2, "times": 2, "over": 2, "least": 2, "most": 2,
    "less": 2, "like": 2, "not": 1, "and": 2, "or": 2, "if": 3,
}


def kind_of(thing, kinds):
    """Tells of anything of which kind it is as an expression by the args' kinds, None where it is none."""
    return _kind_within(thing, kinds, MOST_WITHIN)


def _kind_within(thing, kinds, deep):
    """Tells the kind of an expression of no more than so many within one another, or None."""
    if deep == 0 or not isinstance(thing, tuple) or len(thing) == 0 or not isinstance(thing[0], str):
        return None
    word = thing[0]
    if word in LEAVES:
        return _kind_of_leaf(thing, kinds)
    if OPERATIONS.get(word) != len(thing) - 1:
        return None
    found = [_kind_within(part, kinds, deep - 1) for part in thing[1:]]
    return None if None in found else _kind_made(word, found)


def _kind_of_leaf(thing, kinds):
    """Tells the kind of what begins as an arg, a number or a truth does, or None."""
    if thing[0] == "number":
        return "number" if is_number(thing[1:]) else None
    if len(thing) != 2:
        return None
    if thing[0] == "truth":
        return "truth" if isinstance(thing[1], bool) else None
    at = thing[1]
    return kinds[at] if is_whole(at) and 0 <= at < len(kinds) else None


def _kind_made(word, found):
    """Tells of which kind an operation is of parts of the kinds found, or None."""
    if word == "if":
        return found[1] if found[0] == "truth" and found[1] == found[2] else None
    if word == "like":
        return "truth" if found[0] == found[1] else None
    if word in OF_NUMBERS:
        return "number" if found == ["number", "number"] else None
    due = "number" if word == "less" else "truth"
    return "truth" if all([kind == due for kind in found]) else None


def done(word, worths):
    """Tells what an operation but if makes of a list of worths, None by nought."""
    if word == "not":
        return not worths[0]
    one, other = worths
    if word in OF_NUMBERS:
        return _done_with_numbers(word, one, other)
    if word == "less":
        return is_less(one, other)
    if word == "like":
        return one == other
    return (one and other) if word == "and" else (one or other)


def _done_with_numbers(word, one, other):
    """Tells the number that an operation of two numbers makes, None by nought."""
    if word == "plus":
        return plus(one, other)
    if word == "minus":
        return minus(one, other)
    if word == "times":
        return times(one, other)
    if word == "over":
        return over(one, other)
    return least(one, other) if word == "least" else most(one, other)


def worth_by(expression, args):
    """Tells the worth of an expression by its args' worths, None where something is over nought."""
    word = expression[0]
    if word == "arg":
        return args[expression[1]]
    if word == "number":
        return expression[1:]
    if word == "truth":
        return expression[1]
    if word == "if":
        return _worth_of_if(expression, args)
    worths = [worth_by(part, args) for part in expression[1:]]
    return None if None in worths else done(word, worths)


def _worth_of_if(expression, args):
    """Tells the worth of an if, of which only the side taken is worked out."""
    _, condition, one, other = expression
    truth = worth_by(condition, args)
    if truth is None:
        return None
    return worth_by(one if truth else other, args)


def is_safe(expression):
    """Tells whether an expression has no over, but by a written number that isn't nought."""
    word = expression[0]
    if word in LEAVES:
        return True
    if word == "over" and not _is_written_but_nought(expression[2]):
        return False
    return all([is_safe(part) for part in expression[1:]])


def _is_written_but_nought(expression):
    return expression[0] == "number" and expression[1] != 0
