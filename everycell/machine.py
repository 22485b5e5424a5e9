"""A machine: the cells of a program made moment by moment, in a store of blocks, and asked at any moment."""

from everycell.arrays import cells_within, look_at_cell, look_at_lengths, look_at_name, many_cells
from everycell.blocks import Blocks
from everycell.errors import Bare, Faulty, NoLanes, NoProgram, TooMany
from everycell.looker import lets
from everycell.moments import counts_of, rows_of
from everycell.outcomes import outcomes_by
from everycell.rules import worth_at
from everycell.worths import is_whole

MOST_LANES = 8
MOST_CELLS = 4000
# By what a term came to what its cell's state is.
STATES = {"worth": "made", "fault": "faulty", "lost": "lost"}


def foretold_rows(text, program, lengths, *, lanes=1):
    """Tells how many rows a machine of a program has done at its end, how many cells made, how many lanes were idle."""
    _look_at_program(text, program)
    look_at_lengths(text, lengths)
    _look_at_lanes(lanes)
    found = [counts_of(nest, lengths, lanes) for nest in program[0]]
    return tuple([sum([counts[at] for counts in found]) for at in range(3)])


class Machine:
    """A program of a text at some moment of its run, by lengths and inputs."""

    def __init__(self, text, program, lengths, inputs, *, lanes=1, block=4, within=4):
        _look_at_program(text, program)
        # What the cells come to by the text alone. What lies nowhere is looked up there, made where it wasn't yet.
        self._plain = outcomes_by(text, lengths, inputs)
        _look_at_lanes(lanes)
        nests, places = program
        self._lanes = lanes
        self._places = {name: place for name, place in places}
        # By each name of an input and a place at which of the store's cells its own begin.
        self._begins, many = self._laid()
        if many > MOST_CELLS:
            raise TooMany(many)
        self._store = Blocks(many, block=block, within=within)
        self._rows = [row for nest in nests for row in rows_of(nest, lengths, lanes)]
        self._done = 0
        self._made = 0
        self._idle = 0
        # By each made name a dict from its cells made so far to how they were then, and by each of the store's cells
        # the name that was written there last.
        self._states = {name: {} for name in self._places}
        self._last = {}
        # The number of a text's row, the cell and the word of the least fault so far.
        self._least = None
        self._write_inputs()

    def step(self):
        """Does a row, and tells its name and a list of the cells made."""
        if self.is_over():
            raise Bare("no row is left")
        name, term, cells, wide = self._rows[self._done]
        # All are worked out ahead of the first being written.
        found = [worth_at(term, self._plain.numbers_at(cell), self._read, name=name, cell=cell) for cell in cells]
        for cell, (told, _) in zip(cells, found):
            self._write(name, cell, told)
        self._done += 1
        self._made += len(cells)
        if wide:
            self._idle += self._lanes - len(cells)
        return (name, list(cells))

    def run(self):
        """Does all rows that are left, and tells how many."""
        many = len(self._rows) - self._done
        while not self.is_over():
            self.step()
        return many

    def is_over(self):
        """Tells whether all rows are done."""
        return self._done == len(self._rows)

    def fault(self):
        """Tells the least fault so far, a tuple (name, cell, word), or None."""
        if self._least is None:
            return None
        row, cell, word = self._least
        return (list(self._plain.deeds)[row], cell, word)

    def counts(self):
        """Tells how many rows are done, cells made, lanes idle, and how often blocks were fetched, and put outside."""
        return (self._done, self._made, self._idle, *self._store.counts())

    def state(self, name, cell):
        """Tells the state of a cell."""
        look_at_cell(self._plain.sizes, name, cell)
        if name not in self._plain.deeds:
            return "input"
        if name not in self._places:
            return "never"
        state = self._states[name].get(cell, "waits")
        return state if state == "waits" or self._last[self._at(name, cell)] == name else "gone"

    def worth(self, name, cell):
        """Tells the worth of a cell, or refuses one that is faulty or lost."""
        told = self._told(name, cell)
        if told[0] != "worth":
            root, there = self._plain.way_down(name, cell)[-1]
            raise Faulty(name, cell, self._plain.told[root][there][1])
        return told[1]

    def layers(self):
        """Tells a twin of the store."""
        return self._store.twin()

    def cells(self, name):
        """Tells a list of all cells of a name, in order."""
        look_at_name(self._plain.sizes, name)
        return cells_within(self._plain.sizes[name])

    def array(self, name):
        """Tells a dict of those cells of a name that have worths."""
        found = [(cell, self._told(name, cell)) for cell in self.cells(name)]
        return {cell: told[1] for cell, told in found if told[0] == "worth"}

    def is_whole_made(self, name):
        """Tells whether all cells of a name, perhaps none, were made, whatever became of them."""
        return len(self._states.get(name, {})) == many_cells(self._plain.sizes[name])

    def twin(self):
        """Tells a machine that is as this one is, and goes on by itself."""
        other = Machine(((), ()), ((), ()), {}, {})
        # These are never changed, but that what a cell comes to may be looked up once for both.
        other._plain, other._rows, other._lanes = self._plain, self._rows, self._lanes
        other._places, other._begins = self._places, self._begins
        other._store = self._store.twin()
        other._done, other._made, other._idle = self._done, self._made, self._idle
        other._states = {name: {cell: states[cell] for cell in states} for name, states in self._states.items()}
        other._last = {at: self._last[at] for at in self._last}
        other._least = self._least
        return other

    def _laid(self):
        """Tells a dict from the names of inputs and places to where they begin, and how many cells there are."""
        names = [name for name in self._plain.sizes if name not in self._plain.deeds]
        begins = {}
        many = 0
        for name in sorted(set([*names, *list(self._places.values())])):
            begins[name] = many
            many += many_cells(self._plain.sizes[name])
        return (begins, many)

    def _at(self, name, cell):
        """Tells which of the store's cells a cell of an input or a made name is."""
        at = 0
        for size, number in zip(self._plain.sizes[name], cell):
            at = at * size + number
        return self._begins[self._places.get(name, name)] + at

    def _write_inputs(self):
        for name, array in self._plain.told.items():
            for cell, (_, worth) in array.items():
                self._store.write(self._at(name, cell), worth)

    def _read(self, name, cell):
        return self._store.read(self._at(name, cell))

    def _write(self, name, cell, told):
        """Makes a cell of what its term came to."""
        at = self._at(name, cell)
        self._store.write(at, told[1] if told[0] == "worth" else None)
        self._last[at] = name
        self._states[name][cell] = STATES[told[0]]
        if told[0] == "fault":
            fault = (list(self._plain.deeds).index(name), cell, told[1])
            self._least = fault if self._least is None else min(self._least, fault)

    def _told(self, name, cell):
        """Tells what a cell comes to; refuses what is none."""
        if self.state(name, cell) in ("input", "made"):
            return ("worth", self._store.seen(self._at(name, cell)))
        self._plain.make_for(name)
        return self._plain.told[name][cell]

    def __len__(self):
        return len(range(self._done))


def _look_at_program(text, program):
    if not lets(text, program):
        raise NoProgram("only a program of the text that is right can be run")


def _look_at_lanes(lanes):
    if not is_whole(lanes) or not 1 <= lanes <= MOST_LANES:
        raise NoLanes("lanes")
