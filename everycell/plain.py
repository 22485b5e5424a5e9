"""The plain reader: all arrays of a text made in order, cell by cell, up to the first fault."""

from everycell.arrays import cells_within, look_at_inputs, look_at_lengths, sizes_by
from everycell.expressions import worth_by
from everycell.rules import carried_by, cell_of, rule_by, worth_at
from everycell.shapes import look_at_fit, shapes_in
from everycell.worths import is_whole_worth


def plain_of(text, lengths, inputs):
    """Tells a tuple (arrays, fault) of what a text makes of inputs by lengths."""
    look_at_fit(text)
    look_at_lengths(text, lengths)
    look_at_inputs(text, lengths, inputs)
    reading = Reading(text, lengths)
    for name, _, _ in text[0]:
        reading.arrays[name] = {cell: inputs[name][cell] for cell in cells_within(reading.sizes[name])}
    for name, deed in text[1]:
        fault = reading.make(name, deed)
        if fault is not None:
            return (reading.arrays, fault)
    return (reading.arrays, None)


class Reading:
    """The arrays made so far of a text, by lengths."""

    def __init__(self, text, lengths):
        self.lengths = lengths
        self.shapes = shapes_in(text)
        self.sizes = sizes_by(text, lengths)
        self.arrays = {}

    def make(self, name, deed):
        """Makes the array of a row, and tells None, or the fault (name, cell, word) at which it ends."""
        told_of = self._putter(deed) if deed[0] == "put" else self._worker(name, deed)
        array = {}
        self.arrays[name] = array
        for cell in cells_within(self.sizes[name]):
            word, told = told_of(cell)
            if word != "worth":
                return (name, cell, told)
            array[cell] = told
        return None

    def _worker(self, name, deed):
        """Tells a def that tells of a cell of a row what its rule comes to."""
        cell_due = cell_of(len(self.sizes[name]))
        # What a run made of the cells ahead needn't be made again for each cell: carried it comes to the same.
        rule = carried_by(deed, cell_due) if deed[0] == "run" else rule_by(deed, self.shapes, cell_due, 0)

        def ask(other, cell):
            return self.arrays[other][cell]

        def told_of(cell):
            numbers = {**self.lengths}
            for axis, at in enumerate(cell):
                numbers[f"i{axis}"] = at
            told, _ = worth_at(rule, numbers, ask, name=name, cell=cell)
            return told

        return told_of

    def _putter(self, deed):
        """Tells a def that tells of a cell of a put what its rule comes to."""
        _, source, numbers, values, expression = deed
        # All numbers are gone through once, not once for each cell.
        found = {}
        for cell, number in self.arrays[numbers].items():
            if is_whole_worth(number):
                found.setdefault(number[0], []).append(self.arrays[values][cell])

        def told_of(cell):
            far = self.arrays[source][cell]
            there = found.get(cell[0], [])
            if expression is None:
                return ("fault", "twice") if len(there) > 1 else ("worth", [far, *there][-1])
            for value in there:
                far = worth_by(expression, [far, value])
                if far is None:
                    return ("fault", "nought")
            return ("worth", far)

        return told_of
