"""Naming: texts with names and letters called otherwise, or with rows in another order."""

from everycell.deeds import SOURCES
from everycell.errors import NoName, NoOrder
from everycell.names import is_letter, is_name
from everycell.terms import of_name, put_in
from everycell.texts import letters_of, look_at_text, names_of, sources_of
from everycell.worths import is_whole

# By the words of deeds at which of their places lengths stand, the word's own being 0; but of count a shape.
LENGTHS = {"spread": (3,), "part": (3, 4)}


def named(text, *, names=None, letters=None):
    """Tells a text with names and letters called otherwise, all at once."""
    by_names = _calls(names, names_of(text), is_name)
    by_letters = _calls(letters, letters_of(text), is_letter)
    inputs, rows = text
    return (
        tuple([(by_names[name], kind, _shape(shape, by_letters)) for name, kind, shape in inputs]),
        tuple([(by_names[name], _deed(deed, by_names, by_letters)) for name, deed in rows]),
    )


def ordered(text, order):
    """Tells a text with its rows in another order."""
    look_at_text(text)
    inputs, rows = text
    if not isinstance(order, (list, tuple)) or not all([is_whole(number) for number in order]):
        raise NoOrder(None)
    if sorted(order) != list(range(len(rows))):
        raise NoOrder(None)
    ahead = {name: True for name, _, _ in inputs}
    for number in order:
        name, deed = rows[number]
        if not all([source in ahead for source in sources_of(deed)]):
            raise NoOrder(number)
        ahead[name] = True
    return (inputs, tuple([rows[number] for number in order]))


def led(thing, names):
    """Tells a dict by names or letters with these called otherwise."""
    by = {} if names is None else names
    return {by.get(key, key): _own(value) for key, value in thing.items()}


def _own(thing):
    """Tells a thing with all lists and dicts in it, itself too, new ones."""
    if isinstance(thing, dict):
        return {key: _own(thing[key]) for key in thing}
    if isinstance(thing, list):
        return [_own(each) for each in thing]
    return tuple([_own(each) for each in thing]) if isinstance(thing, tuple) else thing


def _calls(thing, own, is_one):
    """Tells a dict from all of a text's own names, or letters, in order, to what they are called by a thing.

    is_one tells of anything whether it is a name, or a letter.
    """
    if thing is not None and not isinstance(thing, dict):
        raise NoName(thing)
    by = {} if thing is None else thing
    others = [key for key in by if key not in own]
    if others:
        raise NoName(min(others, key=_as_shown))
    calls = {name: by.get(name, name) for name in own}
    for called in calls.values():
        if not is_one(called):
            raise NoName(called)
    taken = {}
    for called in calls.values():
        if called in taken:
            raise NoName(called)
        taken[called] = True
    return calls


def _as_shown(thing):
    return repr(thing)


def _shape(shape, letters):
    return tuple([_length(length, letters) for length in shape])


def _length(length, letters):
    return put_in(length, {letter: of_name(letters[letter]) for letter in letters})


def _deed(deed, names, letters):
    """Tells a deed with names and letters called otherwise."""
    word = deed[0]
    if word == "map":
        return (word, deed[1], tuple([names[source] for source in deed[2]]))
    if word == "count":
        return (word, _shape(deed[1], letters), deed[2])
    parts = list(deed)
    for at in SOURCES[word]:
        parts[at] = names[deed[at]]
    for at in LENGTHS.get(word, ()):
        parts[at] = _length(deed[at], letters)
    return tuple(parts)
