"""Texts: inputs and rows, looked at, and what is told of them."""

from everycell.deeds import SOURCES, lengths_in, made_by
from everycell.errors import NoName, NoText
from everycell.names import is_name, is_shape

MOST_INPUTS = 6
MOST_ROWS = 12
MOST_LETTERS = 4
KINDS = ("number", "truth")


def look_at_text(thing):
    """Refuses, with NoText, what is no text."""
    _known_by(thing)


def kinds_by(text):
    """Tells a dict from a text's names, in order, to their kinds."""
    known = _known_by(text)
    return {name: kind for name, (kind, _) in known.items()}


def ranks_by(text):
    """Tells a dict from a text's names, in order, to their ranks."""
    known = _known_by(text)
    return {name: rank for name, (_, rank) in known.items()}


def names_of(text):
    """Tells a list of a text's names, in order."""
    return list(_known_by(text))


def letters_of(text):
    """Tells a list of a text's letters, sorted."""
    look_at_text(text)
    return _letters_in(text)


def deed_of(text, name):
    """Tells the deed of a text's name, None of an input's; NoName of anything that is none."""
    look_at_text(text)
    inputs, rows = text
    for own, deed in rows:
        if own == name:
            return deed
    if name not in [own for own, _, _ in inputs]:
        raise NoName(name)
    return None


def sources_of(deed):
    """Tells a list of a deed's sources, in the order in which it tells them."""
    if deed[0] == "map":
        return list(deed[2])
    return [deed[at] for at in SOURCES[deed[0]]]


def _known_by(thing):
    """Tells a dict from a text's names, in order, to tuples (kind, rank), or refuses what is none."""
    if not _has_text_form(thing):
        raise NoText("text", None)
    inputs, rows = thing
    known = {}
    for number, each in enumerate(inputs):
        if not _is_new_input(each, known):
            raise NoText("inputs", number)
        known[each[0]] = (each[1], len(each[2]))
    for number, each in enumerate(rows):
        found = made_by(each[1], known) if _is_newly_named(each, 2, known) else None
        if found is None:
            raise NoText("rows", number)
        known[each[0]] = found
    if len(_letters_in(thing)) > MOST_LETTERS:
        raise NoText("letters", None)
    return known


def _has_text_form(thing):
    """Tells of anything whether it is a tuple of two tuples with no more things than a text may have."""
    if not isinstance(thing, tuple) or len(thing) != 2:
        return False
    inputs, rows = thing
    if not isinstance(inputs, tuple) or not isinstance(rows, tuple):
        return False
    return len(inputs) <= MOST_INPUTS and len(rows) <= MOST_ROWS


def _is_newly_named(thing, many, known):
    """Tells whether a thing is a tuple of so many things, first a name that isn't known yet."""
    return isinstance(thing, tuple) and len(thing) == many and is_name(thing[0]) and thing[0] not in known


def _is_new_input(thing, known):
    return _is_newly_named(thing, 3, known) and thing[1] in KINDS and is_shape(thing[2])


def _letters_in(text):
    """Tells a list of the letters of what is right but perhaps for their number, sorted."""
    inputs, rows = text
    lengths = []
    for _, _, shape in inputs:
        lengths.extend(list(shape))
    for _, deed in rows:
        lengths.extend(lengths_in(deed))
    return sorted({name for _, parts in lengths for name, _ in parts})
