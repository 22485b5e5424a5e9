"""Outcomes: what each cell of a text's names comes to, whatever faults ahead of it, and what it hangs on."""

from everycell.arrays import cells_within, look_at_arrays, sizes_by
from everycell.expressions import worth_by
from everycell.rules import carried_by, cell_of, rule_by, worth_at
from everycell.shapes import shapes_in
from everycell.texts import sources_of
from everycell.worths import is_whole_worth


def outcomes_by(text, lengths, inputs):
    """Tells the outcomes of a text's inputs, refusing what is none, with no row's made yet."""
    look_at_arrays(text, lengths, inputs)
    outcomes = Outcomes(text, lengths)
    for name, _, _ in text[0]:
        outcomes.told[name] = {cell: ("worth", inputs[name][cell]) for cell in cells_within(outcomes.sizes[name])}
    return outcomes


class Outcomes:
    """What all cells of those names come to that were made so far, of a text that fits, by lengths."""

    def __init__(self, text, lengths):
        self.numbers = {letter: lengths[letter] for letter in lengths}
        self.deeds = {name: deed for name, deed in text[1]}
        self.shapes = shapes_in(text)
        self.sizes = sizes_by(text, lengths)
        # By each name made a dict from all its cells, in order, to what they come to.
        self.told = {}

    def numbers_at(self, cell):
        """Tells a dict of the numbers for all names of terms at a cell: the lengths, and those of its axes."""
        return {**self.numbers, **{f"i{axis}": at for axis, at in enumerate(cell)}}

    def worth(self, name, cell):
        """Tells the worth of a cell, None of one that is faulty or lost."""
        told = self.told[name][cell]
        return told[1] if told[0] == "worth" else None

    def array(self, name):
        """Tells a dict of those cells of a name that have worths."""
        return {cell: told[1] for cell, told in self.told[name].items() if told[0] == "worth"}

    def way_down(self, name, cell):
        """Tells a list of a cell without a worth, the one by which it is lost, and so on to the faulty one."""
        way = [(name, cell)]
        told = self.told[name][cell]
        while told[0] == "lost":
            _, name, cell = told
            way.append((name, cell))
            told = self.told[name][cell]
        return way

    def first_fault(self):
        """Tells the first fault of all rows, a tuple (name, cell, word), or None."""
        for name in self.deeds:
            for cell, told in self.told[name].items():
                if told[0] == "fault":
                    return (name, cell, told[1])
        return None

    def make_all(self):
        """Makes all rows that weren't made."""
        for name in self.deeds:
            if name not in self.told:
                self._make(name)

    def make_for(self, name):
        """Makes a name, and ahead of it all that it hangs on, where they weren't made."""
        wanted = {name: True}
        for own in reversed(list(self.deeds)):
            if own in wanted:
                for source in sources_of(self.deeds[own]):
                    wanted[source] = True
        for own in self.deeds:
            if own in wanted and own not in self.told:
                self._make(own)

    def _make(self, name):
        self.told[name] = {}
        make = self.maker(name)
        for cell in cells_within(self.sizes[name]):
            told, _ = make(cell)
            self.told[name][cell] = told

    def maker(self, name):
        """Tells a def that tells of a cell of a row a tuple: what it comes to, and a list of cells that it hangs on.

        These are those that its rule asks for, but of a run its own cell one less along the axis stands for all that
        this hangs on, so that no line is gone through for each of its cells. They may stand there twice.
        """
        deed = self.deeds[name]
        if deed[0] == "put":
            return self._putter(deed)
        cell_due = cell_of(len(self.sizes[name]))
        rule = carried_by(deed, cell_due) if deed[0] == "run" else rule_by(deed, self.shapes, cell_due, 0)

        def made(cell):
            told, asked = worth_at(rule, self.numbers_at(cell), self.worth, name=name, cell=cell)
            if told[0] == "lost" and told[1] == name:
                # Not carried it goes the same way up to there, and ends as that cell ended.
                told = self.told[name][told[2]]
            return (told, asked)

        return made

    def near(self, name, cell):
        """Tells a list of the cells that the rule of a made row asks for at a cell, in order, each once."""
        deed = self.deeds[name]
        if deed[0] == "run":
            rule = rule_by(deed, self.shapes, cell_of(len(cell)), 0)
            _, asked = worth_at(rule, self.numbers_at(cell), self.worth)
            return asked
        make = self.maker(name)
        _, asked = make(cell)
        return list({each: True for each in asked})

    def _putter(self, deed):
        _, source, numbers, values, expression = deed
        asks, found, end = self._gone_through(numbers)

        def made(cell):
            asked = [(source, cell)]
            far = self.worth(source, cell)
            if far is None:
                return (("lost", source, cell), asked)
            begin = 0
            for many, at in enumerate(found.get(cell[0], [])):
                asked.extend(asks[begin:at + 1])
                begin = at + 1
                if many > 0 and expression is None:
                    return (("fault", "twice"), asked)
                asked.append((values, (at,)))
                value = self.worth(values, (at,))
                if value is None:
                    return (("lost", values, (at,)), asked)
                far = value if expression is None else worth_by(expression, [far, value])
                if far is None:
                    return (("fault", "nought"), asked)
            asked.extend(asks[begin:])
            return (("worth", far) if end is None else end, asked)

        return made

    def _gone_through(self, numbers):
        """Tells of a put's numbers those asked for, a dict from each to where it stands, and by which one it is lost.

        So they are gone through once, not once for each cell.
        """
        asks = []
        found = {}
        for cell in cells_within(self.sizes[numbers]):
            asks.append((numbers, cell))
            number = self.worth(numbers, cell)
            if number is None:
                return (asks, found, ("lost", numbers, cell))
            if is_whole_worth(number):
                found.setdefault(number[0], []).append(cell[0])
        return (asks, found, None)
