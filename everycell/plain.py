"""The plain reader: all arrays of a text made in order, cell by cell, up to the first fault."""

from everycell.arrays import cells_within
from everycell.outcomes import outcomes_by


def plain_of(text, lengths, inputs):
    """Tells a tuple (arrays, fault) of what a text makes of inputs by lengths."""
    outcomes = outcomes_by(text, lengths, inputs)
    fault = _fault_in(outcomes)
    return ({name: outcomes.array(name) for name in outcomes.told}, fault)


def _fault_in(outcomes):
    """Makes cell by cell, and tells None, or the fault (name, cell, word) at which it ends."""
    for name in outcomes.deeds:
        outcomes.told[name] = {}
        make = outcomes.maker(name)
        for cell in cells_within(outcomes.sizes[name]):
            told, _ = make(cell)
            outcomes.told[name][cell] = told
            if told[0] != "worth":
                return (name, cell, told[1])
    return None
