"""A debugger: a machine under way, with stops, cells watched, and steps taken back."""

from everycell.errors import Bare, NoStop
from everycell.machine import Machine
from everycell.worths import is_whole

# By the word of each kind of stop how many things stand in it, the word among them.
MANY = {"cell": 3, "name": 2, "row": 2, "fault": 1}
DONE = ("made", "faulty", "lost", "gone")
# Behind so many rows at least a machine is kept, from which those behind it are done anew where rows are taken back.
GAP = 64


class Debugger:
    """A machine of a program, and what was asked to be told of it."""

    def __init__(self, text, program, lengths, inputs, *, lanes=1, block=4, within=4):
        self._machine = Machine(text, program, lengths, inputs, lanes=lanes, block=block, within=within)
        # Machines as they were, from the beginning on; none of them ever goes on, so twins share them.
        self._kept = [self._machine.twin()]
        self._stops = {}
        self._many_put = 0
        self._watches = []
        self._turned = []
        # How many rows were done, and how many watched turns told, ahead of each step and going on that stands.
        self._ahead = []

    def stop_at(self, thing):
        """Puts a stop, and tells its number."""
        self._look_at_stop(thing)
        number = self._many_put
        self._stops[number] = thing
        self._many_put += 1
        return number

    def drop(self, number):
        """Drops a stop."""
        if not is_whole(number) or number not in self._stops:
            raise NoStop(number)
        del self._stops[number]

    def stops(self):
        """Tells a dict from numbers to stops."""
        return {number: self._stops[number] for number in self._stops}

    def step(self):
        """Does a row, and tells what it tells."""
        ahead = self._mark()
        told = self._do_row()
        self._ahead.append(ahead)
        return told

    def go(self):
        """Does rows until one behind which some stop is so that was not ahead of it, or until none is left."""
        self._ahead.append(self._mark())
        # What is so stays so, so none of these comes to be so behind a later row.
        ahead = self._stops_so()
        while not self._machine.is_over():
            self._do_row()
            new = [number for number in self._stops_so() if number not in ahead]
            if new:
                return ("stop", new)
        return ("end",)

    def back(self):
        """Takes the last step or going on back."""
        if not self._ahead:
            raise Bare("no step and no going on stands")
        done, many = self._ahead.pop()
        self._turned = self._turned[:many]
        while len(self._kept[-1]) > done:
            self._kept.pop()
        self._machine = self._kept[-1].twin()
        while len(self._machine) < done:
            self._machine.step()

    def watch(self, name, cell):
        """Watches a cell from now on."""
        # Asked for its state it is refused where it is none.
        self._machine.state(name, cell)
        if (name, cell) not in self._watches:
            self._watches.append((name, cell))

    def watched(self):
        """Tells a list of tuples (rows done, name, cell, state), how watched cells turned."""
        return list(self._turned)

    def worth(self, name, cell):
        """Tells the worth of a cell, or refuses one that is faulty or lost."""
        return self._machine.worth(name, cell)

    def state(self, name, cell):
        """Tells the state of a cell."""
        return self._machine.state(name, cell)

    def array(self, name):
        """Tells a dict of those cells of a name that have worths."""
        return self._machine.array(name)

    def fault(self):
        """Tells the least fault so far, a tuple (name, cell, word), or None."""
        return self._machine.fault()

    def counts(self):
        """Tells how many rows are done, cells made, lanes idle, and how often blocks were fetched, and put outside."""
        return self._machine.counts()

    def is_over(self):
        """Tells whether all rows are done."""
        return self._machine.is_over()

    def machine_now(self):
        """Tells a twin of the machine."""
        return self._machine.twin()

    def twin(self):
        """Tells a debugger that is as this one is, and goes on by itself."""
        other = Debugger(((), ()), ((), ()), {}, {})
        other._machine = self._machine.twin()
        other._kept = list(self._kept)
        other._stops = self.stops()
        other._many_put = self._many_put
        other._watches = list(self._watches)
        other._turned = list(self._turned)
        other._ahead = list(self._ahead)
        return other

    def _mark(self):
        return (len(self._machine), len(self._turned))

    def _do_row(self):
        """Does a row, and tells what it tells; keeps how watched cells turned by it."""
        ahead = [self._machine.state(name, cell) for name, cell in self._watches]
        told = self._machine.step()
        for (name, cell), state in zip(self._watches, ahead):
            now = self._machine.state(name, cell)
            if now != state:
                self._turned.append((len(self._machine), name, cell, now))
        if len(self._machine) >= len(self._kept[-1]) + GAP:
            self._kept.append(self._machine.twin())
        return told

    def _stops_so(self):
        """Tells a list of the numbers of all stops that are so now, rising."""
        return [number for number, stop in self._stops.items() if self._is_so(stop)]

    def _is_so(self, stop):
        word = stop[0]
        if word == "cell":
            return self._machine.state(stop[1], stop[2]) in DONE
        if word == "name":
            return self._machine.is_whole_made(stop[1])
        return len(self._machine) >= stop[1] if word == "row" else self._machine.fault() is not None

    def _look_at_stop(self, thing):
        """Refuses what has no stop's form, then what stands in it for a name and a cell and is none."""
        if not isinstance(thing, tuple) or len(thing) == 0 or not isinstance(thing[0], str):
            raise NoStop(thing)
        word = thing[0]
        if MANY.get(word) != len(thing):
            raise NoStop(thing)
        if word == "row" and (not is_whole(thing[1]) or thing[1] < 1):
            raise NoStop(thing)
        if word == "cell":
            self._machine.state(thing[1], thing[2])
        elif word == "name":
            self._machine.cells(thing[1])

    def __len__(self):
        return len(self._machine)
