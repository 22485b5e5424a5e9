"""Whence and whither: what each cell comes to, which cells it asked for, what it hangs on and what hangs on it."""

from everycell.arrays import is_cell, look_at_cell, look_at_name
from everycell.errors import NoName
from everycell.outcomes import outcomes_by
from everycell.trails import steps_to, through_from, whither_from


def outcomes_of(text, lengths, inputs, name):
    """Tells a dict from all cells of a name to their outcomes."""
    outcomes = outcomes_by(text, lengths, inputs)
    look_at_name(outcomes.sizes, name)
    outcomes.make_for(name)
    return outcomes.told[name]


def near(text, lengths, inputs, name, cell):
    """Tells a list of the cells that a cell's rule asks for."""
    return _near(_outcomes_at(text, lengths, inputs, name, cell), name, cell)


def through(text, lengths, inputs, name, cell):
    """Tells a list of all cells of inputs that a cell hangs on."""
    return through_from(_outcomes_at(text, lengths, inputs, name, cell), name, cell)


def whither(text, lengths, inputs, name, cell):
    """Tells a list of all cells of rows that hang on a cell of an input."""
    outcomes = outcomes_by(text, lengths, inputs)
    _look_at_input(outcomes, name, cell)
    outcomes.make_all()
    return whither_from(outcomes, name, cell)


def way(text, lengths, inputs, name, cell, *, of, at):
    """Tells a way from a cell to a cell of an input as short as can be, None where there is none."""
    outcomes = _outcomes_at(text, lengths, inputs, name, cell)
    _look_at_input(outcomes, of, at)
    steps = steps_to(outcomes, of, at)
    if cell not in steps[name]:
        return None
    found = [(name, cell)]
    while found[-1] != (of, at):
        last, there = found[-1]
        left = steps[last][there] - 1
        nearer = [(own, each) for own, each in _near(outcomes, last, there) if steps[own].get(each) == left]
        found.append(nearer[0])
    return found


def lets_way(text, lengths, inputs, thing):
    """Tells of anything whether it is a way."""
    outcomes = outcomes_by(text, lengths, inputs)
    if not isinstance(thing, list) or len(thing) == 0 or not all([_is_cell_of(outcomes, each) for each in thing]):
        return False
    first, _ = thing[0]
    last, _ = thing[-1]
    outcomes.make_for(first)
    for (name, cell), other in zip(thing[:-1], thing[1:]):
        if other not in _near(outcomes, name, cell):
            return False
    return last not in outcomes.deeds


def _outcomes_at(text, lengths, inputs, name, cell):
    """Tells the outcomes of a name and all that it hangs on, refusing what is none and what is no cell."""
    outcomes = outcomes_by(text, lengths, inputs)
    look_at_cell(outcomes.sizes, name, cell)
    outcomes.make_for(name)
    return outcomes


def _look_at_input(outcomes, name, cell):
    """Refuses what is no input's name, then what is no cell of it."""
    look_at_name(outcomes.sizes, name)
    if name in outcomes.deeds:
        raise NoName(name)
    look_at_cell(outcomes.sizes, name, cell)


def _near(outcomes, name, cell):
    return outcomes.near(name, cell) if name in outcomes.deeds else []


def _is_cell_of(outcomes, thing):
    """Tells of anything whether it is a tuple of a name and a cell of it."""
    if not isinstance(thing, tuple) or len(thing) != 2:
        return False
    name, cell = thing
    return isinstance(name, str) and name in outcomes.sizes and is_cell(cell, outcomes.sizes[name])
