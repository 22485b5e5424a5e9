"""Deeds: of which kind and rank a deed makes an array, by those of the names ahead of it."""

from everycell.expressions import kind_of
from everycell.names import MOST_RANK, is_length, is_shape
from everycell.worths import is_whole, is_worth, kind_of_worth

MOST_SOURCES = 3
# By the word of each deed but map at which of its places sources stand, the word's own being 0.
SOURCES = {
    "count": (), "spread": (1,), "turn": (1,), "part": (1,), "join": (1, 2), "fold": (3,), "run": (3,),
    "where": (1, 2, 3), "pick": (1, 2), "put": (1, 2, 3),
}


def made_by(thing, known):
    """Tells of anything the (kind, rank) of what it makes as a deed, or None where it is none.

    known is a dict from the names ahead to their (kind, rank).
    """
    if not isinstance(thing, tuple) or len(thing) == 0 or not isinstance(thing[0], str):
        return None
    word = thing[0]
    if MANY.get(word) != len(thing):
        return None
    if word == "map":
        return _map(thing[1], thing[2], known)
    places = SOURCES[word]
    found = _found([thing[at] for at in places], known)
    if found is None:
        return None
    led = list(thing)
    for at, each in zip(places, found):
        led[at] = each
    parts = led[1:]
    look = LOOKS[word]
    return look(*parts)


def lengths_in(deed):
    """Tells the lengths that stand in a deed, in order."""
    if deed[0] == "count":
        return list(deed[1])
    if deed[0] == "spread":
        return [deed[3]]
    return [deed[3], deed[4]] if deed[0] == "part" else []


def _found(names, known):
    """Tells a list of the (kind, rank) of each name ahead, or None where a thing is none of them."""
    # A thing that is no text may be no key of a dict.
    if not all([isinstance(name, str) and name in known for name in names]):
        return None
    return [known[name] for name in names]


def _is_axis(thing, rank):
    return is_whole(thing) and 0 <= thing < rank


def _map(expression, sources, known):
    if not isinstance(sources, tuple) or not 1 <= len(sources) <= MOST_SOURCES:
        return None
    found = _found(sources, known)
    if found is None:
        return None
    ranks = [rank for _, rank in found]
    kind = kind_of(expression, [each for each, _ in found])
    return None if kind is None or min(ranks) != max(ranks) else (kind, min(ranks))


# In all the others the (kind, rank) of each source stands in the source's place.


def _count(shape, axis):
    return ("number", len(shape)) if is_shape(shape) and _is_axis(axis, len(shape)) else None


def _spread(source, axis, length):
    kind, rank = source
    right = rank < MOST_RANK and _is_axis(axis, rank + 1) and is_length(length)
    return (kind, rank + 1) if right else None


def _turn(source, order):
    if not isinstance(order, tuple) or not all([is_whole(axis) for axis in order]):
        return None
    return source if sorted(order) == list(range(source[1])) else None


def _part(source, axis, begin, many):
    return source if _is_axis(axis, source[1]) and is_length(begin) and is_length(many) else None


def _join(one, other, axis):
    return one if one == other and _is_axis(axis, one[1]) else None


def _fold(expression, begin, source, axis):
    found = _run(expression, begin, source, axis)
    return None if found is None else (found[0], found[1] - 1)


def _run(expression, begin, source, axis):
    if not is_worth(begin) or not _is_axis(axis, source[1]):
        return None
    kind = kind_of_worth(begin)
    return (kind, source[1]) if kind_of(expression, [kind, source[0]]) == kind else None


def _where(truths, one, other):
    return one if truths == ("truth", one[1]) and one == other else None


def _pick(source, numbers):
    rank = source[1] + numbers[1] - 1
    right = source[1] >= 1 and numbers[0] == "number" and rank <= MOST_RANK
    return (source[0], rank) if right else None


def _put(source, numbers, values, expression):
    kind, rank = source
    if rank != 1 or numbers != ("number", 1) or values != source:
        return None
    return source if expression is None or kind_of(expression, [kind, kind]) == kind else None


# By the word of each deed how many things stand in it, the word among them, and what looks at them.
MANY = {
    "map": 3, "count": 3, "spread": 4, "turn": 3, "part": 5, "join": 4,
    "fold": 5, "run": 5, "where": 4, "pick": 3, "put": 5,
}
LOOKS = {
    "count": _count, "spread": _spread, "turn": _turn, "part": _part, "join": _join,
    "fold": _fold, "run": _run, "where": _where, "pick": _pick, "put": _put,
}
