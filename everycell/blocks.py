"""Blocks: a store of cells that lie in blocks outside, of which few at once are fetched within."""

from everycell.errors import NoCell, NoLanes, NoWorth
from everycell.worths import is_whole, is_worth

MOST_CELLS = 20000
MOST_OF_BLOCKS = 64


class Blocks:
    """A store of so many cells, so many in a block, so many blocks within at most."""

    def __init__(self, size, *, block=4, within=4):
        for what, thing, least, most in (
            ("size", size, 0, MOST_CELLS), ("block", block, 1, MOST_OF_BLOCKS), ("within", within, 1, MOST_OF_BLOCKS),
        ):
            if not is_whole(thing) or not least <= thing <= most:
                raise NoLanes(what)
        self._sizes = (size, block, within)
        # A cell's worth is the same wherever its block lies, so worths are kept once and blocks by their numbers.
        self._worths = [None] * size
        self._within = []
        self._written = {}
        self._fetched = 0
        self._put = 0

    def write(self, at, worth):
        """Gives a cell a worth, or takes its worth away with None."""
        self._look_at_cell(at)
        if worth is not None and not is_worth(worth):
            raise NoWorth("a cell has a worth or None")
        self.ask_for(at, True)
        self._worths[at] = worth

    def read(self, at):
        """Tells a cell's worth, or None, asking for its block."""
        self._look_at_cell(at)
        self.ask_for(at, False)
        return self._worths[at]

    def seen(self, at):
        """Tells a cell's worth, or None, asking for nothing."""
        self._look_at_cell(at)
        return self._worths[at]

    def flush(self):
        """Puts all blocks within away, and tells how many of them were put outside."""
        many = len(self._written)
        while self._within:
            self._put_away()
        return many

    def within(self):
        """Tells a list of the blocks within, the one asked for longest ago first."""
        return list(self._within)

    def written(self):
        """Tells a list of the blocks within that were written since they were fetched, rising."""
        return sorted(self._written)

    def worths(self):
        """Tells a list of all cells' worths, in order."""
        return list(self._worths)

    def counts(self):
        """Tells how often a block was fetched, and put outside."""
        return (self._fetched, self._put)

    def sizes(self):
        """Tells how many cells there are, how many in a block, and how many blocks within at most."""
        return self._sizes

    def twin(self):
        """Tells a store that is as this one is, and goes on by itself."""
        size, block, within = self._sizes
        other = Blocks(size, block=block, within=within)
        other._worths = list(self._worths)
        other._within = list(self._within)
        other._written = dict(self._written)
        other._fetched = self._fetched
        other._put = self._put
        return other

    def ask_for(self, at, is_to_write):
        """Asks for the block of a cell, to write or to read it."""
        _, block, most = self._sizes
        number = at // block
        if number in self._within:
            self._within.remove(number)
        else:
            if len(self._within) == most:
                self._put_away()
            self._fetched += 1
        self._within.append(number)
        if is_to_write:
            self._written[number] = True

    def _put_away(self):
        """Puts the block asked for longest ago away: outside, if it was written since it was fetched."""
        number = self._within.pop(0)
        if number in self._written:
            del self._written[number]
            self._put += 1

    def _look_at_cell(self, thing):
        if not is_whole(thing) or not 0 <= thing < self._sizes[0]:
            raise NoCell(None, thing)

    def __eq__(self, other):
        return isinstance(other, Blocks) and self._sizes == other._sizes and self._worths == other._worths

    def __len__(self):
        return len(self._within)


def foretold(asks, *, block=4, within=4):
    """Tells the counts of a new store of which just these, tuples (word, cell), are asked."""
    # Of which size it is tells nothing here: only the blocks are counted.
    store = Blocks(0, block=block, within=within)
    for word, cell in asks:
        store.ask_for(cell, word == "write")
    return store.counts()
