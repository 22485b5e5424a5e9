"""Programs: how a text's arrays are made by nests of loops, and the plain one, which makes them row by row."""

from everycell.rules import cell_of, rule_by
from everycell.shapes import shapes_by
from everycell.terms import constant


def plain_program(text):
    """Tells the plain program of a text that fits."""
    shapes = shapes_by(text)
    nests = []
    for name, deed in text[1]:
        shape = shapes[name]
        ranges = tuple([(f"i{axis}", constant(0), length) for axis, length in enumerate(shape)])
        order = tuple([("whole", var) for var, _, _ in ranges])
        rule = rule_by(deed, shapes, cell_of(len(shape)), 0)
        nests.append((ranges, order, False, ((name, rule),)))
    names = sorted([name for name, _ in text[1]])
    return (tuple(nests), tuple([(name, name) for name in names]))
