"""Trails: which cells of inputs a cell comes from, and which cells an input's cell leads to."""

from everycell.arrays import cells_within
from everycell.texts import sources_of


def through_from(outcomes, name, cell):
    """Tells a list of all cells of inputs that one comes to from a cell of a made name, from near to near."""
    wanted = {own: {} for own in outcomes.sizes}
    wanted[name][cell] = True
    for own in reversed(list(outcomes.deeds)):
        if not wanted[own]:
            continue
        make = outcomes.maker(own)
        # Rows and cells are gone through from the end on, as what one hangs on always stands ahead of it.
        for there in reversed(cells_within(outcomes.sizes[own])):
            if there not in wanted[own]:
                continue
            _, asked = make(there)
            for other, near in asked:
                wanted[other][near] = True
    inputs = [own for own in outcomes.sizes if own not in outcomes.deeds]
    return [(own, there) for own in inputs for there in cells_within(outcomes.sizes[own]) if there in wanted[own]]


def steps_to(outcomes, name, cell):
    """Tells by each name a dict from those of its cells from which one comes to a cell of an input to how many steps
    from near to near that takes at least; of rows that weren't made it has none.
    """
    steps = {own: {} for own in outcomes.sizes}
    steps[name][cell] = 0
    for own, deed in outcomes.deeds.items():
        if own not in outcomes.told or not any([steps[source] for source in sources_of(deed)]):
            continue
        make = outcomes.maker(own)
        for there in cells_within(outcomes.sizes[own]):
            _, asked = make(there)
            # A run's own cell one less but stands for what this one asks for, so to it there is no step.
            found = [steps[other][near] + (0 if other == own else 1) for other, near in asked if near in steps[other]]
            if found:
                steps[own][there] = min(found)
    return steps


def whither_from(outcomes, name, cell):
    """Tells a list of all cells of made rows from which one comes to a cell of an input, in order."""
    steps = steps_to(outcomes, name, cell)
    return [(own, there) for own in outcomes.deeds for there in steps[own]]
