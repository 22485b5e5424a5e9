"""A house: all outcomes of a text kept, and made anew where a deed makes them others, and nowhere else."""

from everycell.arrays import look_at_cell, look_at_name, many_cells
from everycell.errors import Bare, Faulty, NoInputs, NoLengths, NoName, NoWorth
from everycell.outcomes import Outcomes, outcomes_by
from everycell.shapes import look_at_fit
from everycell.texts import letters_of, look_at_text, sources_of
from everycell.trails import whither_from
from everycell.worths import is_worth, kind_of_worth


class House:
    """A text, lengths and inputs, with all outcomes, and what was ahead of each deed that stands."""

    def __init__(self, text, lengths, inputs):
        self._now = outcomes_by(text, lengths, inputs)
        self._now.make_all()
        self._text = text
        self._lengths = _copied(lengths)
        # Tuples (text, lengths, outcomes). None of these is ever changed, each deed has new ones, so twins share them.
        self._ahead = []
        self._made = self._many_of(list(self._now.deeds))

    def change(self, name, cell, worth):
        """Gives a cell of an input another worth, and tells a list of all cells that are made anew."""
        self._look_at_change(name, cell, worth)
        anew = whither_from(self._now, name, cell)
        new = self._others_kept(self._text, self._now.told)
        new.told[name] = {**_copied(new.told[name]), cell: ("worth", worth)}
        for own, cells in _by_name(anew).items():
            new.told[own] = _copied(new.told[own])
            make = new.maker(own)
            for there in cells:
                told, _ = make(there)
                new.told[own][there] = told
        self._do(self._text, self._lengths, new)
        self._made += len(anew)
        return anew

    def begin_with(self, lengths, inputs):
        """Gives other lengths and inputs, by which all rows are made anew."""
        new = outcomes_by(self._text, lengths, inputs)
        new.make_all()
        self._do(self._text, _copied(lengths), new)
        self._made += self._many_of(list(new.deeds))

    def text_is(self, text):
        """Gives another text of the same inputs and letters, and tells a list of the names that are made anew."""
        self._look_at_text(text)
        kept = self._names_kept(text)
        new = self._others_kept(text, {name: self._now.told[name] for name in kept})
        new.make_all()
        self._do(text, self._lengths, new)
        anew = [name for name in new.deeds if name not in kept]
        self._made += self._many_of(anew)
        return anew

    def back(self):
        """Takes the last deed that stands back."""
        if not self._ahead:
            raise Bare("no deed stands")
        self._text, self._lengths, self._now = self._ahead.pop()

    def text(self):
        """Tells the text now."""
        return self._text

    def lengths(self):
        """Tells the lengths now."""
        return _copied(self._lengths)

    def inputs(self):
        """Tells the inputs now, a dict from their names to arrays."""
        return {name: self._now.array(name) for name, _, _ in self._text[0]}

    def array(self, name):
        """Tells a dict of those cells of a name that have worths."""
        look_at_name(self._now.sizes, name)
        return self._now.array(name)

    def worth(self, name, cell):
        """Tells the worth of a cell, or refuses one that is faulty or lost with the faulty cell that it comes to."""
        look_at_cell(self._now.sizes, name, cell)
        root, there = self._now.way_down(name, cell)[-1]
        told = self._now.told[root][there]
        if told[0] == "fault":
            raise Faulty(root, there, told[1])
        return told[1]

    def how(self, name, cell):
        """Tells how a cell is: worth, fault or lost."""
        look_at_cell(self._now.sizes, name, cell)
        return self._now.told[name][cell][0]

    def fault(self):
        """Tells the first fault as the plain reader does, or None."""
        return self._now.first_fault()

    def made(self):
        """Tells how many cells of rows were made so far."""
        return self._made

    def twin(self):
        """Tells a house that is as this one is, and goes on by itself."""
        # Made of nothing, as all that this one has made needn't be made again.
        other = House(((), ()), {}, {})
        other._text, other._lengths, other._now = self._text, self._lengths, self._now
        other._ahead = list(self._ahead)
        other._made = self._made
        return other

    def _do(self, text, lengths, outcomes):
        """Keeps what was ahead of a deed, and what is behind it."""
        self._ahead.append((self._text, self._lengths, self._now))
        self._text, self._lengths, self._now = text, lengths, outcomes

    def _others_kept(self, text, told):
        """Tells outcomes of a text by the lengths now, of which these are told already."""
        outcomes = Outcomes(text, self._lengths)
        outcomes.told = {name: told[name] for name in told}
        return outcomes

    def _names_kept(self, text):
        """Tells a dict of the inputs' names and those whose deeds are what they were, down to the inputs."""
        kept = {name: True for name, _, _ in text[0]}
        for name, deed in text[1]:
            if self._now.deeds.get(name) == deed and all([source in kept for source in sources_of(deed)]):
                kept[name] = True
        return kept

    def _many_of(self, names):
        """Tells how many cells these names have now, together."""
        return sum([many_cells(self._now.sizes[name]) for name in names])

    def _look_at_change(self, name, cell, worth):
        look_at_name(self._now.sizes, name)
        if name in self._now.deeds:
            raise NoName(name)
        look_at_cell(self._now.sizes, name, cell)
        kinds = {own: kind for own, kind, _ in self._text[0]}
        if not is_worth(worth) or kind_of_worth(worth) != kinds[name]:
            raise NoWorth("the cell's worth has to be of its input's kind")

    def _look_at_text(self, text):
        look_at_text(text)
        if text[0] != self._text[0]:
            raise NoInputs(None)
        if letters_of(text) != letters_of(self._text):
            raise NoLengths(None)
        look_at_fit(text)

    def __eq__(self, other):
        if not isinstance(other, House):
            return False
        return self._text == other._text and self._lengths == other._lengths and self.inputs() == other.inputs()

    def __len__(self):
        return len(self._ahead)


def _copied(table):
    """Tells a dict as it is, a new one."""
    return {key: table[key] for key in table}


def _by_name(cells):
    """Tells a dict from names, in order, to lists of their cells."""
    table = {}
    for name, cell in cells:
        table.setdefault(name, []).append(cell)
    return table
