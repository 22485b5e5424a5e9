"""Names, letters, index terms, lengths and shapes: what a thing has to be to be one of them."""

from everycell.worths import is_whole

MOST_RANK = 3
MOST_SIGNS = 6


def is_name(thing):
    """Tells of anything whether it is a text of one to six small letters."""
    return isinstance(thing, str) and 1 <= len(thing) <= MOST_SIGNS and all([_is_small(sign) for sign in thing])


def is_letter(thing):
    """Tells of anything whether it is a text of one small letter."""
    return isinstance(thing, str) and len(thing) == 1 and _is_small(thing)


def _is_small(sign):
    # Small letters of other alphabets are none here, so islower would let by too many.
    return "a" <= sign <= "z"


def is_index_term(thing):
    """Tells of anything whether it is an index term, whatever texts its names are."""
    if not isinstance(thing, tuple) or len(thing) != 2:
        return False
    const, parts = thing
    if not is_whole(const) or not isinstance(parts, tuple):
        return False
    if not all([_is_part(part) for part in parts]):
        return False
    names = [name for name, _ in parts]
    return names == sorted(set(names))


def _is_part(thing):
    """Tells of anything whether it is a tuple (name, many), many not 0."""
    if not isinstance(thing, tuple) or len(thing) != 2:
        return False
    name, many = thing
    return isinstance(name, str) and is_whole(many) and many != 0


def is_length(thing):
    """Tells of anything whether it is a length."""
    if not is_index_term(thing):
        return False
    const, parts = thing
    return const >= 0 and all([is_letter(name) and many > 0 for name, many in parts])


def is_shape(thing):
    """Tells of anything whether it is a tuple of none to three lengths."""
    return isinstance(thing, tuple) and len(thing) <= MOST_RANK and all([is_length(length) for length in thing])
