"""Faults: what the plain reader would tell if it went on behind them, and how each came about."""

from everycell.arrays import look_at_cell
from everycell.outcomes import outcomes_by


def all_told(text, lengths, inputs):
    """Tells a tuple (arrays, faults, lost), arrays with None for what is faulty or lost."""
    outcomes = _all_outcomes(text, lengths, inputs)
    arrays = {}
    faults = []
    lost = []
    for name in outcomes.sizes:
        arrays[name] = {cell: outcomes.worth(name, cell) for cell in outcomes.told[name]}
        for cell, told in outcomes.told[name].items():
            if told[0] == "fault":
                faults.append((name, cell, told[1]))
            elif told[0] == "lost":
                lost.append((name, cell, told[1], told[2]))
    return (arrays, faults, lost)


def first_fault(text, lengths, inputs):
    """Tells a tuple (name, cell, word, asked) of the first fault, None where there is none."""
    outcomes = _all_outcomes(text, lengths, inputs)
    fault = outcomes.first_fault()
    if fault is None:
        return None
    name, cell, word = fault
    # All that the first one asked for has a worth, as nothing faulted ahead of it.
    asked = [(other, there, outcomes.worth(other, there)) for other, there in outcomes.near(name, cell)]
    return (name, cell, word, asked)


def root_of(text, lengths, inputs, name, cell):
    """Tells a list from a cell without a worth, by what it is lost, and so on to the faulty one; [] of all others."""
    outcomes = outcomes_by(text, lengths, inputs)
    look_at_cell(outcomes.sizes, name, cell)
    outcomes.make_for(name)
    return outcomes.way_down(name, cell) if outcomes.worth(name, cell) is None else []


def _all_outcomes(text, lengths, inputs):
    outcomes = outcomes_by(text, lengths, inputs)
    outcomes.make_all()
    return outcomes
