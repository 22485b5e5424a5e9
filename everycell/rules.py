"""Rules: what a cell of a name is by its deed, as a term, what a term's worth is, and which names are safe."""

from everycell.expressions import is_safe
from everycell.shapes import shapes_in
from everycell.terms import added, constant, of_name, taken
from everycell.texts import deed_of
from everycell.tuples import with_exchanged, with_put_in, without
from everycell.workings import Working, worth_in


def rule_term(text, name, cell, *, around=0):
    """Tells the rule of a text's name at a cell, within so many folds and puts, None of an input's; NoName else."""
    deed = deed_of(text, name)
    return None if deed is None else rule_by(deed, shapes_in(text), cell, around)


def is_safe_name(text, name):
    """Tells whether a text's name is a row's whose rule never faults; NoName of anything that is no name."""
    deed = deed_of(text, name)
    return deed is not None and is_safe_deed(deed)


def worth_at(term, numbers, ask, *, name=None, cell=()):
    """Tells what a term comes to by numbers for its names, and a list of the cells that it asks for."""
    working = Working(ask, name, cell)
    worth = worth_in(term, numbers, working)
    told = working.told if worth is None else ("worth", worth)
    return (told, list(working.asked))


def is_safe_deed(deed):
    """Tells whether a deed's rule has no pick, no put without an expression, and only safe expressions."""
    word = deed[0]
    if word in ("map", "fold", "run"):
        return is_safe(deed[1])
    if word == "put":
        return deed[4] is not None and is_safe(deed[4])
    return word != "pick"


def rule_by(deed, shapes, cell, around):
    """Tells the rule of a deed at a cell, by the shapes of the names ahead."""
    rule = RULES[deed[0]]
    return rule(deed, shapes, cell, around)


def carried_by(deed, cell):
    """Tells the rule of a run at a cell where it is carried."""
    _, expression, begin, source, axis = deed
    return ("carry", axis, expression, begin, ("read", source, cell))


def cell_of(rank):
    """Tells the cell (i0, ..) of so many axes."""
    return tuple([of_name(f"i{axis}") for axis in range(rank)])


# Each of these tells a deed's rule at a cell, by the shapes of the names ahead and how many folds and puts are around.


def _map(deed, shapes, cell, around):
    _, expression, sources = deed
    return _with_reads(expression, [("read", source, cell) for source in sources])


def _with_reads(expression, reads):
    """Tells an expression with reads in the stead of its args."""
    word = expression[0]
    if word == "arg":
        return reads[expression[1]]
    if word in ("number", "truth"):
        return expression
    return (word, *[_with_reads(part, reads) for part in expression[1:]])


def _count(deed, shapes, cell, around):
    return ("count", cell[deed[2]])


def _spread(deed, shapes, cell, around):
    _, source, axis, _ = deed
    return ("read", source, without(cell, axis))


def _turn(deed, shapes, cell, around):
    _, source, order = deed
    return ("read", source, tuple([cell[order.index(axis)] for axis in range(len(order))]))


def _part(deed, shapes, cell, around):
    _, source, axis, begin, _ = deed
    return ("read", source, with_exchanged(cell, axis, added(cell[axis], begin)))


def _join(deed, shapes, cell, around):
    _, one, other, axis = deed
    at = cell[axis]
    bound = shapes[one][axis]
    behind = with_exchanged(cell, axis, taken(at, bound))
    return ("below", at, bound, ("read", one, cell), ("read", other, behind))


def _fold(deed, shapes, cell, around):
    _, expression, begin, source, axis = deed
    var = f"v{around}"
    read = ("read", source, with_put_in(cell, axis, of_name(var)))
    return ("fold", var, shapes[source][axis], expression, begin, read)


def _run(deed, shapes, cell, around):
    _, expression, begin, source, axis = deed
    var = f"v{around}"
    read = ("read", source, with_exchanged(cell, axis, of_name(var)))
    return ("fold", var, added(cell[axis], constant(1)), expression, begin, read)


def _where(deed, shapes, cell, around):
    return ("if", *[("read", source, cell) for source in deed[1:]])


def _pick(deed, shapes, cell, around):
    _, source, numbers = deed
    rank = len(shapes[numbers])
    return ("pick", source, ("read", numbers, cell[:rank]), shapes[source][0], cell[rank:])


def _put(deed, shapes, cell, around):
    _, source, numbers, values, expression = deed
    var = f"v{around}"
    there = (of_name(var),)
    reads = [("read", source, cell), ("read", values, there)]
    return ("put", var, shapes[numbers][0], ("read", numbers, there), cell[0], expression, *reads)


RULES = {
    "map": _map, "count": _count, "spread": _spread, "turn": _turn, "part": _part, "join": _join,
    "fold": _fold, "run": _run, "where": _where, "pick": _pick, "put": _put,
}
