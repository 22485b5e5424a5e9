"""Arrays: lengths, inputs, names and cells looked at, and the cells of names by lengths."""

from everycell.errors import NoCell, NoInputs, NoLengths, NoName
from everycell.shapes import look_at_fit, shapes_in
from everycell.terms import worth_of
from everycell.texts import letters_of
from everycell.worths import is_whole, is_worth, kind_of_worth

MOST_LONG = 40


def look_at_arrays(text, lengths, inputs):
    """Refuses a text that doesn't fit, then lengths and inputs that are none of it."""
    look_at_fit(text)
    look_at_lengths(text, lengths)
    look_at_inputs(text, lengths, inputs)


def look_at_lengths(text, lengths):
    """Refuses, with NoLengths, what is no dict from just a text's letters to whole numbers from 0 to 40."""
    letters = letters_of(text)
    if not _is_dict_of_just(lengths, letters):
        raise NoLengths(None)
    for letter in letters:
        if not is_whole(lengths[letter]) or not 0 <= lengths[letter] <= MOST_LONG:
            raise NoLengths(letter)


def look_at_inputs(text, lengths, inputs):
    """Refuses, with NoInputs, what is no dict from just a text's inputs' names to their arrays by lengths."""
    if not _is_dict_of_just(inputs, [name for name, _, _ in text[0]]):
        raise NoInputs(None)
    for name, kind, shape in text[0]:
        if not _is_array(inputs[name], kind, _sizes(shape, lengths)):
            raise NoInputs(name)


def look_at_name(sizes, name):
    """Refuses, with NoName, what is none of the names that have these sizes."""
    if not isinstance(name, str) or name not in sizes:
        raise NoName(name)


def look_at_cell(sizes, name, cell):
    """Refuses, with NoName, what is no name, then, with NoCell, what is no cell of it."""
    look_at_name(sizes, name)
    if not is_cell(cell, sizes[name]):
        raise NoCell(name, cell)


def sizes_by(text, lengths):
    """Tells a dict from a text's names to tuples, how long each axis is by lengths."""
    return {name: _sizes(shape, lengths) for name, shape in shapes_in(text).items()}


def cells_within(sizes):
    """Tells a list of all cells of an array of these sizes, in the order of tuples."""
    # Else the begins of cells would be gone through, which may be many where there is no cell at all.
    if 0 in sizes:
        return []
    cells = [()]
    for size in sizes:
        cells = [(*cell, at) for cell in cells for at in range(size)]
    return cells


def is_cell(thing, sizes):
    """Tells of anything whether it is a cell of an array of these sizes."""
    if not isinstance(thing, tuple) or len(thing) != len(sizes):
        return False
    return all([is_whole(at) and 0 <= at < size for at, size in zip(thing, sizes)])


def many_cells(sizes):
    """Tells how many cells an array of these sizes has."""
    many = 1
    for size in sizes:
        many *= size
    return many


def _sizes(shape, lengths):
    return tuple([worth_of(length, lengths) for length in shape])


def _is_dict_of_just(thing, names):
    """Tells of anything whether it is a dict that has just these keys."""
    return isinstance(thing, dict) and len(thing) == len(names) and all([name in thing for name in names])


def _is_array(thing, kind, sizes):
    """Tells of anything whether it is a dict from just all cells of these sizes to worths of a kind."""
    if not isinstance(thing, dict):
        return False
    # So many that all are cells are all of them: no need to go through the cells, which may be far more.
    if len(thing) != many_cells(sizes) or not all([is_cell(cell, sizes) for cell in thing]):
        return False
    return all([is_worth(worth) and kind_of_worth(worth) == kind for worth in thing.values()])
