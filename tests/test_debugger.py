import copy
import unittest
from random import Random

from everycell.debugger import Debugger
from everycell.errors import Bare, Faulty, NoCell, NoLanes, NoName, NoProgram, NoStop, TooMany
from everycell.machine import Machine
from everycell.programs import plain_program
from everycell.signs import read
from everycell.turns import turned_all
from tests.things import (
    FIT, FIT_INPUTS, FIT_LENGTHS, any_fitting, any_inputs, any_lengths, any_turned, assert_arrays_looked_at, assert_no_cell, assert_no_name, assert_no_text_first, cells_of, many_things,
    refused, row_of, worth_or_fault,
)


TEXT = read("input b number n\nx = map over 12 @0 of b\ny = map plus @0 1 of x\nz = map times @0 @0 of y\nc = count 0 of m\nf = fold plus @0 @1 from 0 of b 0")
LENGTHS = {"n": 2, "m": 0}
INPUTS = {"b": row_of(3, 0)}
NAMES = "bxyzcf"
# Rows: x 0, x 1 (faulty), z 0, z 1 (lost), f, all by cells of rank 1 but f's.
TURNS = (("fuse", "y"), ("share", "z", "x"))


def debugger(turns=TURNS, inputs=INPUTS, **more):
    return Debugger(TEXT, turned_all(TEXT, turns), LENGTHS, inputs, **more)


def machine_of(made, names=NAMES):
    """All that a debugger, or a machine, tells of its machine."""
    told = [made.is_over(), made.fault(), made.counts(), len(made)]
    for name in names:
        array = made.array(name)
        told.append((name, list(array.items())))
        for cell in cells_of((2,)) if name in "bxyz" else [()] if name == "f" else []:
            told.append((made.state(name, cell), worth_or_fault(made, name, cell)))
    return told


def all_of(made):
    return [machine_of(made), machine_of(made.machine_now()), made.stops(), made.watched()]


class Made(unittest.TestCase):
    def test_as_a_machine_is(self):
        made = debugger(lanes=2, block=3, within=1)
        beside = Machine(TEXT, turned_all(TEXT, TURNS), LENGTHS, INPUTS, lanes=2, block=3, within=1)
        self.assertEqual(machine_of(made), machine_of(beside))
        self.assertEqual((made.stops(), made.watched(), made.machine_now().layers().sizes()), ({}, [], (5, 3, 1)))

    def test_refused(self):
        program = plain_program(FIT)
        assert_no_text_first(self, lambda thing: Debugger(thing, None, None, None, lanes=0))
        assert_arrays_looked_at(self, lambda text, lengths, inputs: Debugger(text, program, lengths, inputs, lanes=0, block=0))
        for thing in many_things():
            refused(self, NoProgram, lambda: Debugger(FIT, thing, None, None, lanes=0))
            for what, most in (("lanes", 8), ("block", 64), ("within", 64)):
                if not (type(thing) is int and 1 <= thing <= most):
                    self.assertEqual(refused(self, NoLanes, lambda: Debugger(FIT, program, FIT_LENGTHS, FIT_INPUTS, **{what: thing})).what, what)
        self.assertEqual(refused(self, NoLanes, lambda: Debugger(FIT, program, FIT_LENGTHS, FIT_INPUTS, lanes=0, block=0, within=0)).what, "lanes")
        text = read("c = count 0 of 101*n")
        self.assertEqual(refused(self, TooMany, lambda: Debugger(text, plain_program(text), {"n": 40}, {}, block=0)).many, 4040)
        with self.assertRaises(TypeError):
            Debugger(FIT, program, FIT_LENGTHS, FIT_INPUTS, 1)
        Debugger(within=1, block=1, lanes=1, inputs=FIT_INPUTS, lengths=FIT_LENGTHS, program=program, text=FIT)

    def test_what_is_handed_in_and_told_is_not_kept(self):
        lengths, inputs = copy.deepcopy((LENGTHS, INPUTS))
        made = debugger(inputs=inputs)
        made.stop_at(("row", 4))
        made.watch("x", (0,))
        made.step()
        kept = all_of(made)
        inputs["b"].clear()
        made.stops().clear()
        made.watched().clear()
        made.array("b").clear()
        made.machine_now().run()
        self.assertEqual(all_of(made), kept)
        self.assertEqual(lengths, LENGTHS)
        made.step()[1].clear()
        self.assertEqual(made.back(), None)
        self.assertEqual(made.step(), ("x", [(1,)]))


class Stops(unittest.TestCase):
    def test_a_cell(self):
        # Faulty, lost, gone, made.
        for name, cell, row in (("x", (1,), 2), ("z", (1,), 4), ("x", (0,), 1), ("z", (0,), 3), ("f", (), 5)):
            made = debugger()
            self.assertEqual(made.stop_at(("cell", name, cell)), 0)
            self.assertEqual((made.go(), len(made)), (("stop", [0]), row))
            self.assertEqual((made.go(), len(made), made.go()), (("end",), 5, ("end",)))

    def test_a_cell_stays_so_as_it_goes(self):
        made = debugger()
        made.step()
        made.stop_at(("cell", "x", (0,)))
        self.assertEqual((made.go(), made.state("x", (0,))), (("end",), "gone"))

    def test_cells_that_are_never_so(self):
        made = debugger()
        for name, cell in (("b", (0,)), ("y", (0,)), ("y", (1,))):
            made.stop_at(("cell", name, cell))
        made.stop_at(("name", "b"))
        made.stop_at(("name", "y"))
        made.stop_at(("row", 6))
        self.assertEqual((made.go(), len(made)), (("end",), 5))

    def test_a_name(self):
        for name, row in (("x", 2), ("z", 4), ("f", 5)):
            made = debugger()
            made.stop_at(("name", name))
            self.assertEqual((made.go(), len(made), made.go()), (("stop", [0]), row, ("end",)))
        made = debugger()
        # It has no cells: all of them are so already.
        made.stop_at(("name", "c"))
        self.assertEqual(made.go(), ("end",))

    def test_a_row(self):
        for row in (1, 3, 5):
            made = debugger()
            made.stop_at(("row", row))
            self.assertEqual((made.go(), len(made), made.go()), (("stop", [0]), row, ("end",)))
        for row in (1, 2):
            made = debugger()
            made.step()
            made.step()
            made.stop_at(("row", row))
            self.assertEqual(made.go(), ("end",))

    def test_a_fault(self):
        made = debugger()
        made.stop_at(("fault",))
        self.assertEqual((made.go(), len(made), made.fault(), made.go()), (("stop", [0]), 2, ("x", (1,), "nought"), ("end",)))
        made = debugger()
        made.step()
        made.step()
        made.stop_at(("fault",))
        self.assertEqual(made.go(), ("end",))
        made = debugger(inputs={"b": row_of(1, 2)})
        made.stop_at(("fault",))
        self.assertEqual(made.go(), ("end",))

    def test_several_behind_one_row(self):
        made = debugger()
        stops = [("row", 2), ("name", "x"), ("row", 3), ("cell", "x", (1,)), ("fault",), ("row", 2), ("name", "f")]
        self.assertEqual([made.stop_at(stop) for stop in stops], list(range(7)))
        self.assertEqual(made.stops(), dict(enumerate(stops)))
        self.assertEqual(made.go(), ("stop", [0, 1, 3, 4, 5]))
        self.assertEqual(made.go(), ("stop", [2]))
        self.assertEqual(made.go(), ("stop", [6]))
        self.assertEqual((made.go(), made.is_over()), (("end",), True))
        self.assertEqual((made.go(), made.stops()), (("end",), dict(enumerate(stops))))

    def test_steps_do_not_heed_them(self):
        made = debugger()
        made.stop_at(("row", 1))
        self.assertEqual((made.step(), made.step()), (("x", [(0,)]), ("x", [(1,)])))
        self.assertEqual(made.go(), ("end",))

    def test_dropped_and_numbers_never_twice(self):
        made = debugger()
        self.assertEqual([made.stop_at(("row", row)) for row in (1, 2, 3)], [0, 1, 2])
        self.assertIsNone(made.drop(2))
        self.assertIsNone(made.drop(number=0))
        self.assertEqual((made.stops(), made.go()), ({1: ("row", 2)}, ("stop", [1])))
        self.assertEqual(made.stop_at(thing=("row", 4)), 3)
        made.back()
        twin = made.twin()
        self.assertEqual((made.stop_at(("fault",)), twin.stop_at(("row", 1))), (4, 4))
        for each in (1, 3, 4):
            made.drop(each)
        self.assertEqual((made.stops(), made.stop_at(("fault",)), twin.stops()), ({}, 5, {1: ("row", 2), 3: ("row", 4), 4: ("row", 1)}))

    def test_no_stop_s_number(self):
        made = debugger()
        made.stop_at(("row", 1))
        made.stop_at(("row", 1))
        made.drop(0)
        kept = all_of(made)
        for thing in [thing for thing in many_things() if not (type(thing) is int and thing == 1)] + [0, 2, -1, "1", (1,), True, None]:
            self.assertIs(refused(self, NoStop, lambda: made.drop(thing)).thing, thing)
        self.assertEqual(all_of(made), kept)

    def test_no_stop(self):
        made = debugger()
        for thing in many_things() + [
            ["row", 1], ("row",), ("row", 0), ("row", -1), ("row", True), ("row", "1"), ("row", None), ("row", 1, 2), ("fault", 1), ("fault", ()), ["fault"], "fault", ("cell",), ("cell", "x"), ("cell", "x", (0,), 1),
            ("name",), ("name", "x", 1), ("Row", 1), (["row"], 1), (None, 1), ("rows", 1), ("row", [1]), ("", "x"), ("x", (0,)), (), [], (("row", 1),),
        ]:
            self.assertIs(refused(self, NoStop, lambda: made.stop_at(thing)).thing, thing)
        self.assertEqual((made.stops(), made.stop_at(("row", 10 ** 30))), ({}, 0))

    def test_no_name_and_no_cell_in_a_stop(self):
        made = Debugger(FIT, plain_program(FIT), FIT_LENGTHS, FIT_INPUTS)
        assert_no_name(self, lambda name: made.stop_at(("name", name)))
        assert_no_name(self, lambda name: made.stop_at(("cell", name, (0,))))
        assert_no_name(self, lambda name: made.stop_at(("cell", name, None)))
        for name, sizes in (("a", (1,)), ("t", (2, 1)), ("s", ()), ("x", (1,))):
            assert_no_cell(self, lambda cell: made.stop_at(("cell", name, cell)), name, sizes)
        self.assertEqual((made.stops(), made.stop_at(("cell", "t", (1, 0)))), ({}, 0))


class Steps(unittest.TestCase):
    def test_to_the_end_and_behind_it(self):
        made = debugger()
        self.assertEqual([made.step() for _ in range(5)], [("x", [(0,)]), ("x", [(1,)]), ("z", [(0,)]), ("z", [(1,)]), ("f", [()])])
        kept = all_of(made)
        for _ in range(2):
            refused(self, Bare, made.step)
        self.assertEqual(all_of(made), kept)
        made.back()
        self.assertEqual(len(made), 4)

    def test_taken_back_down_to_the_beginning(self):
        made, kept = debugger(block=2, within=1), []
        made.stop_at(("row", 3))
        made.watch("x", (0,))
        made.watch("x", (1,))
        for deed in (made.step, made.go, made.step, made.go, made.go, made.go):
            kept.append(all_of(made))
            deed()
        self.assertEqual(made.watched(), [(1, "x", (0,), "made"), (2, "x", (1,), "faulty"), (3, "x", (0,), "gone"), (4, "x", (1,), "gone")])
        self.assertEqual([len(each[3]) for each in kept], [0, 1, 3, 4, 4, 4])
        while kept:
            self.assertIsNone(made.back())
            self.assertEqual(all_of(made), kept.pop())
        for _ in range(2):
            refused(self, Bare, made.back)
        self.assertEqual((made.go(), made.watched()), (("stop", [0]), [(1, "x", (0,), "made"), (2, "x", (1,), "faulty"), (3, "x", (0,), "gone")]))

    def test_a_going_on_by_which_no_row_was_done(self):
        made = debugger()
        made.go()
        made.go()
        made.back()
        self.assertEqual((len(made), made.is_over()), (5, True))
        made.back()
        self.assertEqual(len(made), 0)
        refused(self, Bare, made.back)

    def test_stops_and_watches_stay(self):
        made = debugger()
        made.step()
        made.step()
        made.stop_at(("cell", "x", (1,)))
        made.watch("x", (1,))
        made.step()
        made.back()
        made.back()
        self.assertEqual((made.stops(), made.watched(), len(made)), ({0: ("cell", "x", (1,))}, [], 1))
        # So again behind the row that makes it so.
        self.assertEqual((made.go(), made.watched()), (("stop", [0]), [(2, "x", (1,), "faulty")]))
        made.drop(0)
        made.back()
        self.assertEqual((made.stops(), made.go()), ({}, ("end",)))

    def test_many_rows_taken_back(self):
        text = read("c = count 0 of 300")
        made = Debugger(text, plain_program(text), {}, {}, block=3, within=2)
        beside = [Machine(text, plain_program(text), {}, {}, block=3, within=2)]
        for _ in range(300):
            beside.append(beside[-1].twin())
            self.assertEqual(made.step(), beside[-1].step())
        twin = made.twin()
        for due in reversed(beside[:-1]):
            made.back()
            self.assertEqual((made.counts(), made.machine_now().layers(), made.machine_now().layers().within()), (due.counts(), due.layers(), due.layers().within()))
        self.assertEqual((made.go(), made.counts()), (("end",), twin.counts()))
        made.back()
        self.assertEqual((len(made), len(twin)), (0, 300))
        for _ in range(300):
            twin.back()
        self.assertEqual((len(twin), twin.counts()), (0, made.counts()))


class Watches(unittest.TestCase):
    def test_in_the_order_of_watching(self):
        made = debugger()
        for name, cell in (("z", (0,)), ("x", (0,)), ("z", (0,)), ("y", (0,)), ("b", (0,)), ("x", (0,)), ("z", (1,))):
            self.assertIsNone(made.watch(name, cell))
        told = []
        while not made.is_over():
            made.step()
            told.append(made.watched())
        due = [(1, "x", (0,), "made"), (3, "z", (0,), "made"), (3, "x", (0,), "gone"), (4, "z", (1,), "lost")]
        self.assertEqual(told, [due[:1], due[:1], due[:3], due, due])

    def test_from_then_on(self):
        made = debugger()
        made.step()
        made.watch("x", (0,))
        made.watch(cell=(1,), name="x")
        self.assertEqual(made.watched(), [])
        made.go()
        self.assertEqual(made.watched(), [(2, "x", (1,), "faulty"), (3, "x", (0,), "gone"), (4, "x", (1,), "gone")])

    def test_in_wide_rows(self):
        made = debugger((("wide", 0), ("wide", 1)), lanes=2)
        for at in (1, 0):
            made.watch("x", (at,))
        made.step()
        self.assertEqual(made.watched(), [(1, "x", (1,), "faulty"), (1, "x", (0,), "made")])

    def test_no_name_then_no_cell(self):
        made = Debugger(FIT, plain_program(FIT), FIT_LENGTHS, FIT_INPUTS)
        for ask in (made.watch, made.worth, made.state):
            assert_no_name(self, lambda name: ask(name, (0,)))
            assert_no_name(self, lambda name: ask(cell=None, name=name))
            for name, sizes in (("a", (1,)), ("t", (2, 1)), ("s", ()), ("x", (1,))):
                assert_no_cell(self, lambda cell: ask(name, cell), name, sizes)
        assert_no_name(self, made.array)
        made.go()
        self.assertEqual(made.watched(), [])


class Asked(unittest.TestCase):
    def test_beside_a_machine_stepped_as_often(self):
        made = debugger(lanes=3, block=2, within=2)
        beside = Machine(TEXT, turned_all(TEXT, TURNS), LENGTHS, INPUTS, lanes=3, block=2, within=2)
        while True:
            kept = all_of(made)
            self.assertEqual(machine_of(made), machine_of(beside))
            found = made.machine_now()
            self.assertIsInstance(found, Machine)
            self.assertEqual((machine_of(found), found.layers(), found.layers().within()), (machine_of(beside), beside.layers(), beside.layers().within()))
            found.run()
            for ask in (lambda: made.worth("x", (1,)), lambda: made.worth("q", ()), lambda: made.state("x", 1), lambda: made.stop_at(1), lambda: made.drop(0), lambda: made.watch("x", None)):
                refused(self, (Faulty, NoName, NoCell, NoStop), ask)
            self.assertEqual(all_of(made), kept)
            if made.is_over():
                break
            self.assertEqual(made.step(), beside.step())
        self.assertEqual((made.worth("y", (0,)), made.array("y"), made.array("x")), ((5, 1), row_of(5), row_of(4)))


class Twins(unittest.TestCase):
    def test_a_twin_goes_on_by_itself(self):
        made = debugger()
        made.stop_at(("row", 3))
        made.watch("x", (0,))
        made.step()
        made.go()
        twin = made.twin()
        self.assertIsInstance(twin, Debugger)
        kept = all_of(made)
        self.assertEqual(all_of(twin), kept)
        twin.drop(0)
        twin.watch("z", (1,))
        twin.go()
        twin.stop_at(("fault",))
        self.assertEqual(all_of(made), kept)
        for left in (3, 1, 0):
            twin.back()
            self.assertEqual(len(twin), left)
        refused(self, Bare, twin.back)
        self.assertEqual(all_of(made), kept)
        self.assertEqual((twin.go(), twin.go()), (("stop", [1]), ("end",)))
        self.assertEqual(twin.watched(), [(1, "x", (0,), "made"), (3, "x", (0,), "gone"), (4, "z", (1,), "lost")])
        kept = all_of(twin)
        made.back()
        made.back()
        made.step()
        self.assertEqual(all_of(twin), kept)


class ByChance(unittest.TestCase):
    def test_beside_machines_and_lists_of_all_that_was_done(self):
        for seed in range(120):
            chance = Random(seed)
            text, known = any_fitting(chance)
            lengths = any_lengths(chance, text)
            inputs = any_inputs(chance, text, lengths)
            _, program = any_turned(chance, text, 8)
            sizes = {"lanes": chance.randint(1, 8), "block": chance.randint(1, 6), "within": chance.randint(1, 5)}
            start = Machine(text, program, lengths, inputs, **sizes)
            made = Debugger(text, program, lengths, inputs, **sizes)
            cells = [(name, cell) for name in known for cell in start.cells(name)]
            Beside(self, chance, start, made, cells).go_on(25)


class Beside:
    """A debugger by chance beside machines stepped from the beginning on, each deed worked out by the words anew."""

    def __init__(self, case, chance, start, made, cells):
        self.case, self.chance, self.start, self.made, self.cells = case, chance, start, made, cells
        self.now, self.stops, self.put, self.watches, self.told, self.done = start.twin(), {}, 0, [], [], []

    def go_on(self, many):
        for _ in range(many):
            self.chance.choice([self.step, self.step, self.go, self.back, self.stop, self.stop, self.watch, self.drop])()
            case, made = self.case, self.made
            case.assertEqual((made.stops(), made.watched(), made.counts(), made.fault(), made.is_over(), len(made)), (self.stops, self.told, self.now.counts(), self.now.fault(), self.now.is_over(), len(self.now)))
            case.assertEqual([made.state(*cell) for cell in self.cells], [self.now.state(*cell) for cell in self.cells])
            case.assertEqual(made.machine_now().layers().within(), self.now.layers().within())

    def row(self):
        ahead = {cell: self.now.state(*cell) for cell in self.watches}
        found = self.now.step()
        self.told = self.told + [(len(self.now), *cell, self.now.state(*cell)) for cell in self.watches if self.now.state(*cell) != ahead[cell]]
        return found

    def step(self):
        if self.now.is_over():
            refused(self.case, Bare, self.made.step)
            return
        self.done.append((self.now.twin(), self.told))
        self.case.assertEqual(self.made.step(), self.row())

    def so(self):
        done = ("made", "faulty", "lost", "gone")
        return {number for number, stop in self.stops.items() if (
            stop[0] == "cell" and self.now.state(*stop[1:]) in done or stop[0] == "row" and len(self.now) >= stop[1] or stop[0] == "fault" and self.now.fault() is not None
            or stop[0] == "name" and all(self.now.state(*cell) in done for cell in self.cells if cell[0] == stop[1])
        )}

    def go(self):
        self.done.append((self.now.twin(), self.told))
        due = ("end",)
        while not self.now.is_over() and due == ("end",):
            ahead = self.so()
            self.row()
            if self.so() - ahead:
                due = ("stop", sorted(self.so() - ahead))
        self.case.assertEqual(self.made.go(), due)

    def back(self):
        if not self.done:
            refused(self.case, Bare, self.made.back)
            return
        self.now, self.told = self.done.pop()
        self.made.back()

    def stop(self):
        stops = [("row", self.chance.randint(1, 12)), ("fault",)]
        if self.cells:
            cell = self.chance.choice(self.cells)
            stops += [("cell", *cell), ("cell", *cell), ("name", cell[0])]
        stop = self.chance.choice(stops)
        self.case.assertEqual(self.made.stop_at(stop), self.put)
        self.stops[self.put] = stop
        self.put += 1

    def watch(self):
        if self.cells:
            cell = self.chance.choice(self.cells)
            self.made.watch(*cell)
            self.watches = self.watches + [cell] * (cell not in self.watches)

    def drop(self):
        if self.stops:
            number = self.chance.choice(sorted(self.stops))
            self.made.drop(number)
            del self.stops[number]


if __name__ == "__main__":
    unittest.main()
