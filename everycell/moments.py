"""Moments: in which order nests go through their cells, and how many of these at once."""

from everycell.forms import axis_of
from everycell.terms import worth_of
from everycell.tuples import with_exchanged


def rows_of(nest, lengths, lanes):
    """Tells a list of the machine rows of a nest, tuples (name, term, cells, is it wide)."""
    ranges, order, wide, makes = nest
    bounds = tuple([(worth_of(begin, lengths), worth_of(end, lengths)) for _, begin, end in ranges])
    rows = []
    for cells in _cells_at_once(bounds, order, lanes if wide else 1):
        rows.extend([(name, term, cells, wide) for name, term in makes])
    return rows


def counts_of(nest, lengths, lanes):
    """Tells how many machine rows a nest has, how many cells are made in them, and how many lanes are idle."""
    ranges, order, wide, makes = nest
    sizes = [worth_of(end, lengths) - worth_of(begin, lengths) for _, begin, end in ranges]
    # Without axes there is one moment.
    passes = len(makes)
    for size in sizes:
        passes *= size
    if not wide:
        return (passes, passes, 0)
    last = axis_of(order[-1][1])
    rows = len(makes) * _many_at_once(order[-1], sizes[last], lanes)
    for axis, size in enumerate(sizes):
        rows *= 1 if axis == last else size
    return (rows, passes, rows * lanes - passes)


def _many_at_once(item, size, lanes):
    """Tells in how many steps the numbers of a wide nest's last item are gone through, so many lanes at once."""
    if item[0] == "whole":
        return -(-size // lanes)
    # At the end of each tile lanes may be idle.
    tiles, left = divmod(size, item[2])
    return tiles * -(-item[2] // lanes) + -(-left // lanes)


def _cells_at_once(bounds, order, lanes):
    """Tells a list of lists of cells, so many at most of which only the last item's numbers are others."""
    if not order:
        return [[()]]
    # Else the items ahead of the empty one would be gone through for nothing.
    if any([begin == end for begin, end in bounds]):
        return []
    going = [bounds]
    for item in order[:-1]:
        axis = axis_of(item[1])
        going = [with_exchanged(each, axis, part) for each in going for part in _parts_by(item, each[axis])]
    last = axis_of(order[-1][1])
    found = []
    for each in going:
        cell = tuple([begin for begin, _ in each])
        begin, end = each[last]
        cells = [with_exchanged(cell, last, at) for at in range(begin, end)]
        found.extend([cells[at:at + lanes] for at in range(0, len(cells), lanes)])
    return found


def _parts_by(item, bounds):
    """Tells the bounds, one behind the other, to which an item narrows the bounds of its var."""
    begin, end = bounds
    # All but an outer one go number by number, an inner one within what its outer left.
    step = item[2] if item[0] == "outer" else 1
    return [(at, min(at + step, end)) for at in range(begin, end, step)]
