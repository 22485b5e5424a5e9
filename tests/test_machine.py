import copy
import unittest
from random import Random

from everycell.blocks import Blocks, foretold
from everycell.errors import Bare, Faulty, NoCell, NoLanes, NoName, NoProgram, TooMany
from everycell.machine import Machine, foretold_rows
from everycell.plain import plain_of
from everycell.programs import plain_program
from everycell.rules import worth_at
from everycell.signs import read
from everycell.turns import turned_all
from tests.things import (
    FIT, FIT_INPUTS, FIT_LENGTHS, any_fitting, any_inputs, any_lengths, any_turned, assert_arrays_looked_at, assert_no_cell, assert_no_lengths, assert_no_name, assert_no_text_first,
    cells_of, many_things, moments_of, outcomes, plain_by_words, refused, row_of, side_by_side, sizes_of, table_of, worth_or_fault,
)


def text_of(*rows):
    return read("input a number n m\ninput b number n\n" + "\n".join(rows))


ARRAYS = {"a": table_of((1, 2, 3, 4, 5), (6, 7, 8, 9, 10)), "b": row_of(3, 4)}
LENGTHS = {"n": 2, "m": 5}


def machine(rows, turns=(), lengths=LENGTHS, inputs=ARRAYS, **more):
    text = text_of(*rows)
    return Machine(text, turned_all(text, turns), lengths, inputs, **more)


def steps(made):
    """All rows that are left, done one behind the other."""
    told = []
    while not made.is_over():
        told.append(made.step())
    return told


def all_of(made, names):
    """All that a machine tells."""
    told = [made.is_over(), made.fault(), made.counts(), len(made), made.layers().worths(), made.layers().within(), made.layers().written(), made.layers().counts(), made.layers().sizes()]
    for name in names:
        told.append((name, list(made.array(name).items()), made.cells(name)))
        for cell in made.cells(name):
            told.append((made.state(name, cell), worth_or_fault(made, name, cell)))
    return told


def line(row, *numbers):
    return [(row, at) for at in numbers]


class Rows(unittest.TestCase):
    def assert_rows(self, rows, turns, due, idle=0, **more):
        """Each row of a program, in order, as told by steps and by counts."""
        made = machine(rows, turns, **more)
        for at, each in enumerate(due):
            self.assertEqual((len(made), made.counts()[0], made.is_over()), (at, at, False))
            self.assertEqual(made.step(), each)
        self.assertTrue(made.is_over())
        self.assertEqual(made.counts()[:3], (len(due), sum(len(cells) for _, cells in due), idle))
        text = text_of(*rows)
        lanes = {"lanes": more["lanes"]} if "lanes" in more else {}
        self.assertEqual(foretold_rows(text, turned_all(text, turns), more.get("lengths", LENGTHS), **lanes), made.counts()[:3])
        refused(self, Bare, made.step)
        self.assertEqual(len(made), len(due))

    def test_plain(self):
        self.assert_rows(["x = map @0 of a", "y = map plus @0 1 of b"], (), [*[("x", [(row, at)]) for row in range(2) for at in range(5)], ("y", [(0,)]), ("y", [(1,)])])

    def test_exchanged(self):
        self.assert_rows(["x = map @0 of a"], [("exchange", 0, (("whole", "i1"), ("whole", "i0")))], [("x", [(row, at)]) for at in range(5) for row in range(2)])

    def test_tiled(self):
        self.assert_rows(["x = map @0 of a"], [("tile", 0, "i1", 2)], [("x", [(row, at)]) for row in range(2) for at in range(5)])
        self.assert_rows(
            ["x = map @0 of a"], [("tile", 0, "i1", 2), ("exchange", 0, (("outer", "i1", 2), ("whole", "i0"), ("inner", "i1", 2)))],
            [("x", [cell]) for cell in [(0, 0), (0, 1), (1, 0), (1, 1), (0, 2), (0, 3), (1, 2), (1, 3), (0, 4), (1, 4)]],
        )
        self.assert_rows(
            ["x = map @0 of a"], [("tile", 0, "i0", 1), ("tile", 0, "i1", 3), ("exchange", 0, (("outer", "i1", 3), ("inner", "i1", 3), ("outer", "i0", 1), ("inner", "i0", 1)))],
            [("x", [(row, at)]) for at in range(5) for row in range(2)],
        )
        self.assert_rows(["x = map @0 of b"], [("tile", 0, "i0", 8)], [("x", [(0,)]), ("x", [(1,)])])

    def test_split(self):
        self.assert_rows(["x = map @0 of a"], [("split", 0, "i0", (0, ()))], [("x", [(row, at)]) for row in range(2) for at in range(5)])
        text = read("input a number 1+n\nx = map @0 of a")
        made = Machine(text, turned_all(text, [("split", 0, "i0", (1, ()))]), {"n": 2}, {"a": row_of(1, 2, 3)})
        self.assertEqual(steps(made), [("x", [(0,)]), ("x", [(1,)]), ("x", [(2,)])])

    def test_put_together(self):
        self.assert_rows(
            ["x = map @0 of b", "y = map plus @0 1 of x"], [("together", 0)], [("x", [(0,)]), ("y", [(0,)]), ("x", [(1,)]), ("y", [(1,)])],
        )

    def test_fused(self):
        self.assert_rows(["x = map @0 of a", "y = fold plus @0 @1 from 0 of x 1"], [("fuse", "x")], [("y", [(0,)]), ("y", [(1,)])])

    def test_carried(self):
        made = machine(["x = run plus @0 @1 from 0 of a 1"], [("carry", "x")])
        self.assertEqual(steps(made), [("x", [(row, at)]) for row in range(2) for at in range(5)])
        self.assertEqual(made.array("x"), table_of((1, 3, 6, 10, 15), (6, 13, 21, 30, 40)))

    def test_wide(self):
        due = [("x", line(0, 0, 1)), ("x", line(0, 2, 3)), ("x", line(0, 4)), ("x", line(1, 0, 1)), ("x", line(1, 2, 3)), ("x", line(1, 4))]
        self.assert_rows(["x = map @0 of a"], [("wide", 0)], due, 2, lanes=2)
        self.assert_rows(["x = map @0 of a"], [("wide", 0)], [("x", line(0, 0, 1, 2, 3, 4)), ("x", line(1, 0, 1, 2, 3, 4))], 0, lanes=5)
        self.assert_rows(["x = map @0 of a"], [("wide", 0)], [("x", line(0, 0, 1, 2, 3, 4)), ("x", line(1, 0, 1, 2, 3, 4))], 6, lanes=8)
        self.assert_rows(["x = map @0 of a"], [("wide", 0)], [("x", [(row, at)]) for row in range(2) for at in range(5)], lanes=1)
        self.assert_rows(["x = map @0 of a"], [("wide", 0)], [("x", [(row, at)]) for row in range(2) for at in range(5)])

    def test_lanes_are_of_no_use_to_other_nests(self):
        self.assert_rows(["x = map @0 of b"], [], [("x", [(0,)]), ("x", [(1,)])], 0, lanes=8)
        self.assert_rows(["x = map @0 of b", "y = map @0 of b"], [("wide", 1)], [("x", [(0,)]), ("x", [(1,)]), ("y", [(0,), (1,)])], 6, lanes=8)

    def test_wide_and_exchanged(self):
        self.assert_rows(["x = map @0 of a"], [("exchange", 0, (("whole", "i1"), ("whole", "i0"))), ("wide", 0)], [("x", [(0, at), (1, at)]) for at in range(5)], 5, lanes=3)

    def test_wide_and_tiled(self):
        due = [("x", line(row, *numbers)) for row in range(2) for numbers in ((0, 1), (2,), (3, 4))]
        self.assert_rows(["x = map @0 of a"], [("tile", 0, "i1", 3), ("wide", 0)], due, 2, lanes=2)
        self.assert_rows(["x = map @0 of a"], [("tile", 0, "i1", 3), ("wide", 0)], [("x", line(row, *numbers)) for row in range(2) for numbers in ((0, 1, 2), (3, 4))], 6, lanes=4)
        self.assert_rows(["x = map @0 of a"], [("tile", 0, "i0", 3), ("wide", 0)], [("x", [(0, at), (1, at)]) for at in range(5)], 5, lanes=3)

    def test_wide_and_put_together(self):
        turns = [("wide", 0), ("wide", 1), ("together", 0)]
        due = [each for row in range(2) for numbers in ((0, 1, 2), (3, 4)) for each in (("x", line(row, *numbers)), ("y", line(row, *numbers)))]
        self.assert_rows(["x = map @0 of a", "y = map plus @0 1 of x"], turns, due, 4, lanes=3)

    def test_without_axes(self):
        self.assert_rows(["f = fold plus @0 @1 from 0 of b 0", "g = map plus @0 1 of f"], (), [("f", [()]), ("g", [()])])
        self.assert_rows(["f = fold plus @0 @1 from 0 of b 0", "g = map plus @0 1 of f"], [("together", 0)], [("f", [()]), ("g", [()])], lanes=4)

    def test_ranges_of_nought(self):
        rows = ["x = map @0 of a", "y = map plus @0 1 of b", "f = fold plus @0 @1 from 7 of b 0", "z = map @0 of a"]
        nothing = {"lengths": {"n": 0, "m": 5}, "inputs": {"a": {}, "b": {}}}
        self.assert_rows(rows, (), [("f", [()])], **nothing)
        self.assert_rows(rows, [("wide", 0), ("tile", 1, "i0", 3), ("wide", 1), ("tile", 3, "i0", 2), ("wide", 3)], [("f", [()])], **nothing, lanes=3)
        nothing = {"lengths": {"n": 2, "m": 0}, "inputs": {"a": {}, "b": row_of(1, 2)}}
        self.assert_rows(["x = map @0 of a"], [("wide", 0)], [], **nothing, lanes=3)
        self.assert_rows(["x = map @0 of a"], [("tile", 0, "i1", 3), ("wide", 0)], [], **nothing, lanes=3)
        self.assert_rows(["x = map @0 of a"], [("exchange", 0, (("whole", "i1"), ("whole", "i0"))), ("wide", 0)], [], **nothing, lanes=3)

    def test_no_rows(self):
        made = Machine(((), ()), ((), ()), {}, {})
        self.assertEqual(all_of(made, []), [True, None, (0, 0, 0, 0, 0), 0, [], [], [], (0, 0), (0, 4, 4)])
        self.assertEqual((made.run(), foretold_rows(((), ()), ((), ()), {})), (0, (0, 0, 0)))
        refused(self, Bare, made.step)

    def test_run(self):
        made = machine(["x = map @0 of a", "y = map plus @0 1 of b"])
        made.step()
        made.step()
        self.assertEqual((made.run(), made.is_over(), len(made), made.run()), (10, True, 12, 0))
        refused(self, Bare, made.step)

    def test_told_lists_are_new(self):
        made = machine(["x = map @0 of a"], [("wide", 0)], lanes=2)
        kept = all_of(made, "abx")
        made.twin().step()[1].clear()
        made.cells("x").clear()
        made.array("a").clear()
        made.layers().write(0, True)
        self.assertEqual(all_of(made, "abx"), kept)
        name, cells = made.step()
        cells.clear()
        self.assertEqual((made.state("x", (0, 1)), made.step()), ("made", ("x", line(0, 2, 3))))

    def test_foretold_beyond_a_machine_s_cells(self):
        text = read("x = count 0 of n n n\ny = map @0 of x")
        self.assertEqual(foretold_rows(text, plain_program(text), {"n": 40}), (128000, 128000, 0))
        self.assertEqual(foretold_rows(text, turned_all(text, [("fuse", "x"), ("tile", 0, "i2", 7), ("wide", 0)]), {"n": 40}, lanes=4), (1600 * 12, 64000, 1600 * 48 - 64000))


class Cells(unittest.TestCase):
    ROWS = ("x = map over 12 @0 of b", "y = map plus @0 1 of x", "z = map times @0 @0 of y", "w = map minus @0 1 of z")

    def test_states_ahead_amid_and_behind(self):
        made = machine(self.ROWS, [("fuse", "y")], inputs={**ARRAYS, "b": row_of(3, 0)})
        names, seen = ("b", "x", "y", "z", "w"), []
        while True:
            seen.append(["".join(made.state(name, (at,))[0] for name in names) for at in range(2)])
            if made.is_over():
                break
            made.step()
        # input, waits, made, faulty, lost, never, by their first letters, for cells 0 and 1
        self.assertEqual(seen, [
            ["iwnww", "iwnww"], ["imnww", "iwnww"], ["imnww", "ifnww"], ["imnmw", "ifnww"], ["imnmw", "ifnlw"], ["imnmm", "ifnlw"], ["imnmm", "ifnll"],
        ])

    def test_gone(self):
        made = machine(self.ROWS, [("share", "z", "x"), ("share", "w", "y")])
        for due in (["wwww"] * 2, ["mwww", "wwww"], ["mwww"] * 2, ["mmww", "mwww"], ["mmww"] * 2, ["gmmw", "mmww"], ["gmmw"] * 2, ["ggmm", "gmmw"], ["ggmm"] * 2):
            self.assertEqual(["".join(made.state(name, (at,))[0] for name in "xyzw") for at in range(2)], due)
            self.assertEqual(made.worth("x", (0,)), (4, 1))
            self.assertEqual(made.worth("y", (1,)), (4, 1))
            self.assertEqual((made.array("x"), made.array("z"), made.array("w")), (row_of(4, 3), row_of(25, 16), row_of(24, 15)))
            if not made.is_over():
                made.step()
        self.assertEqual(made.state("x", (0,)), "gone")

    def test_faulty_and_lost_ones_go_too(self):
        made = machine(self.ROWS, [("share", "z", "x"), ("share", "w", "y")], inputs={**ARRAYS, "b": row_of(0, 3)})
        self.assertEqual((made.step(), made.state("x", (0,))), (("x", [(0,)]), "faulty"))
        made.run()
        self.assertEqual([made.state(name, (0,)) for name in "xyzw"], ["gone", "gone", "lost", "lost"])
        for name in "xyzw":
            found = refused(self, Faulty, lambda: made.worth(name, (0,)))
            self.assertEqual((found.name, found.cell, found.word), (name, (0,), "nought"))

    def test_a_place_called_by_a_later_name(self):
        made = machine(self.ROWS, [("share", "x", "z")])
        made.run()
        self.assertEqual([made.state(name, (1,)) for name in "xyzw"], ["gone", "made", "made", "made"])
        self.assertEqual(made.layers().worths()[10:], [(3, 1), (4, 1), (24, 1), (15, 1), (5, 1), (4, 1), (25, 1), (16, 1)])

    def test_worths_at_each_moment(self):
        made = machine(self.ROWS, [("fuse", "y")], inputs={**ARRAYS, "b": row_of(3, 0)})
        while True:
            self.assertEqual([made.worth(name, (0,)) for name in "bxyzw"], [(3, 1), (4, 1), (5, 1), (25, 1), (24, 1)])
            self.assertEqual(made.worth("b", (1,)), (0, 1))
            for name in "xyzw":
                found = refused(self, Faulty, lambda: made.worth(name=name, cell=(1,)))
                self.assertEqual((found.name, found.cell, found.word), (name, (1,), "nought"))
                self.assertEqual(list(made.array(name)), [(0,)])
            if made.is_over():
                break
            made.step()

    def test_words_of_the_first_fault_met(self):
        text = read("input a number n\ninput k number n\nd = map over 1 @0 of a\np = pick d k\nu = put p k d\nr = run plus @0 @1 from 0 of p 0")
        made = Machine(text, turned_all(text, [("carry", "r")]), {"n": 3}, {"a": row_of(1, 0, 1), "k": row_of(0, 1, 5)})
        for name, cell, word in (("d", (1,), "nought"), ("p", (1,), "nought"), ("p", (2,), "pick"), ("u", (2,), "pick"), ("u", (1,), "nought"), ("r", (1,), "nought"), ("r", (2,), "nought")):
            for _ in range(2):
                found = refused(self, Faulty, lambda: made.worth(name, cell))
                self.assertEqual((found.name, found.cell, found.word), (name, cell, word))
                made.run()
        text = read("input a number n\ninput k number n\nu = put a k k\nv = map @0 of u")
        made = Machine(text, plain_program(text), {"n": 2}, {"a": row_of(1, 0), "k": row_of(1, 1)})
        self.assertEqual(refused(self, Faulty, lambda: made.worth("v", (1,))).word, "twice")

    def test_a_carried_cell_is_lost_by_its_own_one_ahead(self):
        text = read("input a number 4\nr = run over @0 @1 from 1 of a 0")
        for turns, due in (((), ["made", "faulty", "faulty", "faulty"]), ([("carry", "r")], ["made", "faulty", "lost", "lost"])):
            made = Machine(text, turned_all(text, turns), {}, {"a": row_of(2, 0, 1, 0)})
            made.run()
            self.assertEqual([made.state("r", (at,)) for at in range(4)], due)
            self.assertEqual((made.fault(), made.array("r")), (("r", (1,), "nought"), {(0,): (1, 2)}))

    def test_asked_it_changes_nothing(self):
        made = machine(self.ROWS, [("fuse", "y"), ("share", "w", "x")], block=1, within=2)
        while not made.is_over():
            kept = all_of(made, "abxyzw")
            self.assertEqual(all_of(made, "abxyzw"), kept)
            for ask in (lambda: made.worth("q", ()), lambda: made.worth("x", (9,)), lambda: made.state("x", None), lambda: made.cells(None), lambda: made.array([])):
                refused(self, (NoName, NoCell), ask)
            self.assertEqual(all_of(made, "abxyzw"), kept)
            made.step()

    def test_cells(self):
        made = machine(self.ROWS, [("fuse", "y")])
        self.assertEqual((made.cells("a"), made.cells("y"), made.cells(name="w")), (cells_of((2, 5)), [(0,), (1,)], [(0,), (1,)]))

    def test_no_name_then_no_cell(self):
        made = Machine(FIT, turned_all(FIT, [("fuse", "x")]), FIT_LENGTHS, FIT_INPUTS)
        for ask in (made.state, made.worth):
            assert_no_name(self, lambda name: ask(name, (0,)))
            assert_no_name(self, lambda name: ask(cell=None, name=name))
            for name, sizes in (("a", (1,)), ("t", (2, 1)), ("s", ()), ("x", (1,)), ("y", (1,))):
                assert_no_cell(self, lambda cell: ask(name, cell), name, sizes)
        assert_no_name(self, made.cells)
        assert_no_name(self, made.array)


class Store(unittest.TestCase):
    def test_cells_in_order(self):
        text = read("input c number n\ninput a number 2 n\nz = map @0 of c\nb = map plus @0 1 of z\nf = fold plus @0 @1 from 0 of c 0")
        made = Machine(text, plain_program(text), {"n": 2}, {"c": row_of(8, 9), "a": table_of((1, 2), (3, 4))})
        worths = [(1, 1), (2, 1), (3, 1), (4, 1), None, None, (8, 1), (9, 1), None, None, None]
        self.assertEqual((made.layers().worths(), made.layers().sizes()), (worths, (11, 4, 4)))
        made.run()
        self.assertEqual(made.layers().worths(), [(1, 1), (2, 1), (3, 1), (4, 1), (9, 1), (10, 1), (8, 1), (9, 1), (17, 1), (8, 1), (9, 1)])
        made = Machine(text, turned_all(text, [("fuse", "z"), ("share", "b", "b")]), {"n": 2}, {"c": row_of(8, 9), "a": table_of((1, 2), (3, 4))}, block=3, within=1)
        made.run()
        self.assertEqual(made.layers().worths(), [(1, 1), (2, 1), (3, 1), (4, 1), (9, 1), (10, 1), (8, 1), (9, 1), (17, 1)])

    def test_inputs_are_written_first_in_the_text_s_order(self):
        text = read("input c number n\ninput a number 2 n")
        made = Machine(text, ((), ()), {"n": 2}, {"a": table_of((1, 2), (3, 4)), "c": row_of(8, 9)}, block=1, within=3)
        # c's cells are 4 and 5, a's 0 to 3.
        self.assertEqual((made.counts(), made.layers().within(), made.layers().written()), ((0, 0, 0, 6, 3), [1, 2, 3], [1, 2, 3]))

    def test_as_often_as_it_asks(self):
        rows = ("x = map plus @0 plus @1 @0 of b b", "r = run plus @0 @1 from 0 of b 0")
        made = machine(rows, [("carry", "r")], inputs={"a": {}, "b": row_of(3, 4)}, lengths={"n": 2, "m": 0}, block=1, within=1)
        # b's cells are 0 and 1, r's 2 and 3, x's 4 and 5: each ask is of another block but those twice in a row.
        self.assertEqual(made.counts()[3:], (2, 1))
        made.step()
        self.assertEqual(made.counts()[3:], (4, 2))
        made.step()
        self.assertEqual(made.counts()[3:], (6, 3))
        made.step()
        # The first of r has none ahead: b, r.
        self.assertEqual(made.counts()[3:], (8, 4))
        made.step()
        # Its own one ahead, where it is, b, then r.
        self.assertEqual(made.counts()[3:], (10, 5))

    def test_all_are_worked_out_ahead_of_the_first_being_written(self):
        made = machine(["x = map @0 of b"], [("wide", 0)], inputs={"a": {}, "b": row_of(3, 4)}, lengths={"n": 2, "m": 0}, lanes=2, block=2, within=1)
        made.run()
        # One fetch for both of b, and one for both of x.
        self.assertEqual(made.counts(), (1, 2, 0, 2, 1))
        made = machine(["x = map @0 of b"], inputs={"a": {}, "b": row_of(3, 4)}, lengths={"n": 2, "m": 0}, block=2, within=1)
        made.run()
        self.assertEqual(made.counts(), (2, 2, 0, 4, 2))

    def test_what_faults_is_written_without_a_worth(self):
        made = machine(["x = map over 1 @0 of b", "y = map @0 of x"], [("share", "y", "x")], inputs={"a": {}, "b": row_of(0, 4)}, lengths={"n": 2, "m": 0}, block=1, within=1)
        ahead = made.counts()[3]
        made.step()
        self.assertEqual((made.counts()[3], made.layers().written()), (ahead + 2, [2]))
        made.run()
        self.assertEqual(made.layers().worths(), [(0, 1), (4, 1), None, (1, 4)])

    def test_layers_is_a_twin(self):
        made = machine(["x = map @0 of b"])
        store = made.layers()
        self.assertIsInstance(store, Blocks)
        store.flush()
        store.write(0, None)
        self.assertEqual(made.layers().worths()[0], (1, 1))
        made.run()
        self.assertEqual(store.worths()[-1], None)


class Faults(unittest.TestCase):
    def test_the_least_one_though_another_was_met_first(self):
        inputs = {"a": table_of((1, 2), (0, 0)), "b": row_of(1, 0)}
        rows = ("x = map over 1 @0 of a", "y = map over 1 @0 of b")
        made = machine(rows, [("exchange", 0, (("whole", "i1"), ("whole", "i0")))], lengths={"n": 2, "m": 2}, inputs=inputs)
        self.assertIsNone(made.fault())
        seen = []
        while not made.is_over():
            made.step()
            seen.append(made.fault())
        due = ("x", (1, 0), "nought")
        self.assertEqual(seen, [None, due, due, due, due, due])
        inputs = {"a": table_of((1, 0), (0, 0)), "b": row_of(0, 0)}
        made = machine(rows, [("exchange", 0, (("whole", "i1"), ("whole", "i0")))], lengths={"n": 2, "m": 2}, inputs=inputs)
        self.assertEqual([(made.step(), made.fault())[1] for _ in range(6)], [None, due, ("x", (0, 1), "nought"), ("x", (0, 1), "nought"), ("x", (0, 1), "nought"), ("x", (0, 1), "nought")])

    def test_by_the_text_s_rows_and_not_by_names(self):
        rows = ("z = map over 1 @0 of b", "c = map over 1 @0 of b")
        made = machine(rows, [("together", 0)], lengths={"n": 2, "m": 0}, inputs={"a": {}, "b": row_of(0, 0)})
        self.assertEqual([(made.step(), made.fault())[1] for _ in range(4)], [("z", (0,), "nought")] * 4)
        # The text's first row is met last.
        made = machine(("x = map over 1 @0 of b", "y = map over 2 @0 of b"), [("together", 0)], lengths={"n": 2, "m": 0}, inputs={"a": {}, "b": row_of(1, 0)})
        self.assertEqual([(made.step(), made.fault())[1] for _ in range(4)], [None, None, ("x", (1,), "nought"), ("x", (1,), "nought")])

    def test_a_later_row_met_first(self):
        text = read("input a number n\nx = map over 1 @0 of a\ny = map over 2 @0 of a")
        nests, places = plain_program(text)
        made = Machine(text, ((nests[1], nests[0]), places), {"n": 2}, {"a": row_of(5, 0)})
        self.assertEqual([(made.step(), made.fault())[1] for _ in range(4)], [None, ("y", (1,), "nought"), ("y", (1,), "nought"), ("x", (1,), "nought")])

    def test_none(self):
        made = machine(("x = map @0 of a",))
        made.run()
        self.assertIsNone(made.fault())


class Twins(unittest.TestCase):
    def test_a_twin_goes_on_by_itself(self):
        rows = ("x = map over 12 @0 of b", "y = map plus @0 1 of x", "z = map times @0 @0 of y")
        made = machine(rows, [("share", "z", "x"), ("wide", 1)], lanes=3, inputs={**ARRAYS, "b": row_of(3, 0)})
        names = "abxyz"
        while not made.is_over():
            twin = made.twin()
            self.assertIsInstance(twin, Machine)
            kept = all_of(made, names)
            self.assertEqual(all_of(twin, names), kept)
            told = steps(twin)
            self.assertEqual(all_of(made, names), kept)
            other = made.twin()
            self.assertEqual(steps(other), told)
            self.assertEqual(all_of(other, names), all_of(twin, names))
            kept = all_of(other, names)
            made.step()
            self.assertEqual(all_of(other, names), kept)


class Refused(unittest.TestCase):
    PROGRAM = plain_program(FIT)

    def test_no_text_no_fit(self):
        for left in ((None, None), (self.PROGRAM, {}), (((), ()), FIT_LENGTHS)):
            assert_no_text_first(self, lambda thing: Machine(thing, *left, None, lanes=0))
            assert_no_text_first(self, lambda thing: foretold_rows(thing, *left, lanes=0))
        assert_arrays_looked_at(self, lambda text, lengths, inputs: Machine(text, self.PROGRAM, lengths, inputs, lanes=0, block=0))

    def test_no_program(self):
        for thing in many_things() + [
            list(self.PROGRAM), self.PROGRAM[0], (self.PROGRAM[0], ()), plain_program(read("input a number n\nx = map @0 of a")), (self.PROGRAM[0][:1], self.PROGRAM[1]),
        ]:
            for lengths, inputs in ((FIT_LENGTHS, FIT_INPUTS), (None, None)):
                refused(self, NoProgram, lambda: Machine(FIT, thing, lengths, inputs, lanes=9, block=0))
                refused(self, NoProgram, lambda: foretold_rows(FIT, thing, lengths, lanes=9))

    def test_no_lengths(self):
        assert_no_lengths(self, lambda lengths: foretold_rows(FIT, self.PROGRAM, lengths, lanes=0))
        assert_no_lengths(self, lambda lengths: Machine(FIT, self.PROGRAM, lengths, None, lanes=0))

    def test_no_lanes(self):
        for thing in many_things() + [0, 9, -1, True, False, "1", (1,)]:
            if not (type(thing) is int and 1 <= thing <= 8):
                for ask in (
                    lambda: Machine(FIT, self.PROGRAM, FIT_LENGTHS, FIT_INPUTS, lanes=thing), lambda: Machine(FIT, self.PROGRAM, FIT_LENGTHS, FIT_INPUTS, lanes=thing, within=0, block=0),
                    lambda: foretold_rows(FIT, self.PROGRAM, FIT_LENGTHS, lanes=thing),
                ):
                    self.assertEqual(refused(self, NoLanes, ask).what, "lanes")
        for lanes in (1, 8):
            Machine(FIT, self.PROGRAM, FIT_LENGTHS, FIT_INPUTS, lanes=lanes)
            foretold_rows(FIT, self.PROGRAM, FIT_LENGTHS, lanes=lanes)

    def test_no_block_no_within(self):
        for thing in many_things() + [0, 65, True]:
            if not (type(thing) is int and 1 <= thing <= 64):
                for what, more in (("block", {"block": thing}), ("block", {"within": thing, "block": thing}), ("within", {"within": thing})):
                    self.assertEqual(refused(self, NoLanes, lambda: Machine(FIT, self.PROGRAM, FIT_LENGTHS, FIT_INPUTS, **more)).what, what)
        self.assertEqual(Machine(FIT, self.PROGRAM, FIT_LENGTHS, FIT_INPUTS, block=64, within=64).layers().sizes(), (6, 64, 64))

    def test_too_many(self):
        text = read("input a number n n\nx = spread a 0 m\ny = map @0 of x")
        inputs = {"a": {cell: (1, 1) for cell in cells_of((40, 40))}}
        program = plain_program(text)
        for m, many in ((1, 4800), (2, 8000), (40, 129600)):
            for more in ({}, {"block": 0}, {"within": None}):
                self.assertEqual(refused(self, TooMany, lambda: Machine(text, program, {"n": 40, "m": m}, inputs, **more)).many, many)
            self.assertEqual(refused(self, NoLanes, lambda: Machine(text, program, {"n": 40, "m": m}, inputs, lanes=9)).what, "lanes")
        shared = turned_all(text, [("share", "y", "x")])
        self.assertEqual(Machine(text, shared, {"n": 40, "m": 1}, inputs).layers().sizes()[0], 3200)
        fused = turned_all(text, [("fuse", "x")])
        self.assertEqual(refused(self, TooMany, lambda: Machine(text, fused, {"n": 40, "m": 2}, inputs)).many, 4800)
        text = read("input a number 2000\nx = map @0 of a")
        inputs = {"a": {(at,): (1, 1) for at in range(2000)}}
        self.assertEqual(Machine(text, plain_program(text), {}, inputs).layers().sizes()[0], 4000)
        text = read("input a number 2000\nx = map @0 of a\nf = fold plus @0 @1 from 0 of x 0")
        self.assertEqual(refused(self, TooMany, lambda: Machine(text, plain_program(text), {}, inputs)).many, 4001)

    def test_by_name_alone(self):
        for ask in (lambda: Machine(FIT, self.PROGRAM, FIT_LENGTHS, FIT_INPUTS, 1), lambda: foretold_rows(FIT, self.PROGRAM, FIT_LENGTHS, 1)):
            self.assertRaises(TypeError, ask)
        made = Machine(within=2, inputs=FIT_INPUTS, lanes=2, program=self.PROGRAM, block=3, lengths=FIT_LENGTHS, text=FIT)
        self.assertEqual(made.layers().sizes(), (6, 3, 2))
        self.assertEqual(foretold_rows(lanes=1, lengths=FIT_LENGTHS, program=self.PROGRAM, text=FIT), (2, 2, 0))

    def test_what_is_handed_in_is_not_kept(self):
        lengths, inputs = copy.deepcopy((FIT_LENGTHS, FIT_INPUTS))
        made = Machine(FIT, self.PROGRAM, lengths, inputs)
        self.assertEqual((lengths, inputs), (FIT_LENGTHS, FIT_INPUTS))
        kept = all_of(made, "atsxy")
        lengths.clear()
        inputs["a"].clear()
        inputs["t"][(0, 0)] = None
        inputs.pop("s")
        self.assertEqual(all_of(made, "atsxy"), kept)
        made.run()
        self.assertEqual((made.array("x"), made.array("y")), (row_of(6), row_of(0)))


class Beside:
    """What a machine does by the document's words: rows, asks of the store, states, counts and the least fault."""

    def __init__(self, text, known, program, lengths, inputs, lanes):
        self.text, self.lengths, self.inputs, self.lanes = text, lengths, inputs, lanes
        self.sizes = {name: sizes_of(shape, lengths) for name, (_, shape) in known.items()}
        nests, places = program
        self.places = {**dict(places), **{name: name for name in inputs}}
        self.cells = [(place, cell) for place in sorted(set(self.places.values())) for cell in cells_of(self.sizes[place])]
        self.at = {each: at for at, each in enumerate(self.cells)}
        self.asks, self.held, self.states, self.holders, self.faults = [], {}, {}, {}, []
        self.done = self.made = self.idle = 0
        for name, _, _ in text[0]:
            for cell in cells_of(self.sizes[name]):
                self.write(name, cell, inputs[name][cell])
        self.rows = []
        for ranges, order, wide, makes in nests:
            for moments in side_by_side(moments_of(ranges, order, lengths), order, lanes if wide else 1):
                cells = [tuple(moment[var] for var, _, _ in ranges) for moment in moments]
                self.rows.extend((name, term, cells, moments, wide) for name, term in makes)

    def write(self, name, cell, worth):
        self.asks.append(("write", self.at[(self.places[name], cell)]))
        self.held[(self.places[name], cell)] = worth
        self.holders[(self.places[name], cell)] = name

    def ask(self, name, cell):
        self.asks.append(("read", self.at[(self.places[name], cell)]))
        return self.held[(self.places[name], cell)]

    def step(self):
        name, term, cells, moments, wide = self.rows[self.done]
        told = [worth_at(term, {**self.lengths, **moment}, self.ask, name=name, cell=cell)[0] for cell, moment in zip(cells, moments)]
        for cell, found in zip(cells, told):
            self.write(name, cell, found[1] if found[0] == "worth" else None)
            self.states[(name, cell)] = {"worth": "made", "fault": "faulty", "lost": "lost"}[found[0]]
            if found[0] == "fault":
                self.faults.append(([own for own, _ in self.text[1]].index(name), cell, name, found[1]))
        self.done, self.made, self.idle = self.done + 1, self.made + len(cells), self.idle + (self.lanes - len(cells) if wide else 0)
        return name, cells

    def state(self, name, cell):
        if name in self.inputs:
            return "input"
        if name not in self.places:
            return "never"
        if (name, cell) not in self.states:
            return "waits"
        return self.states[(name, cell)] if self.holders[(self.places[name], cell)] == name else "gone"

    def fault(self):
        return None if not self.faults else (min(self.faults)[2], min(self.faults)[1], min(self.faults)[3])


class ByChance(unittest.TestCase):
    def test_row_by_row(self):
        met = {}
        for seed in range(150):
            chance = Random(seed)
            text, known = any_fitting(chance)
            lengths = any_lengths(chance, text)
            inputs = any_inputs(chance, text, lengths)
            _, program = any_turned(chance, text, 12)
            lanes, block, within = chance.randint(1, 8), chance.randint(1, 6), chance.randint(1, 5)
            made = Machine(text, program, lengths, inputs, lanes=lanes, block=block, within=within)
            beside = Beside(text, known, program, lengths, inputs, lanes)
            cells = [(name, cell) for name in known for cell in cells_of(beside.sizes[name])]
            due = outcomes(text, known, lengths, inputs)
            while True:
                for name, cell in cells:
                    self.assertEqual(made.state(name, cell), beside.state(name, cell))
                    met[made.state(name, cell)] = True
                name, cell = chance.choice(cells) if cells else (None, None)
                if cells and due[name][cell][0] == "worth":
                    self.assertEqual(made.worth(name, cell), due[name][cell][1])
                elif cells:
                    found = refused(self, Faulty, lambda: made.worth(name, cell))
                    self.assertEqual((found.name, found.cell, found.word), (name, cell, word_of(due, name, cell)))
                self.assertEqual(made.fault(), beside.fault())
                self.assertEqual(made.counts(), (beside.done, beside.made, beside.idle, *foretold(beside.asks, block=block, within=within)))
                self.assertEqual(made.layers().worths(), [beside.held.get(each) for each in beside.cells])
                self.assertEqual((made.is_over(), len(made)), (beside.done == len(beside.rows), beside.done))
                if made.is_over():
                    break
                self.assertEqual(made.step(), beside.step())
            self.assertEqual(made.counts()[:3], foretold_rows(text, program, lengths, lanes=lanes))
            self.assertEqual(made.fault(), plain_by_words(text, known, lengths, inputs)[1])
        self.assertEqual(set(met), {"input", "never", "waits", "made", "faulty", "lost", "gone"})

    def test_each_array_is_the_plain_reader_s_at_any_moment(self):
        for seed in range(500, 800):
            chance = Random(seed)
            text, known = any_fitting(chance)
            lengths = any_lengths(chance, text)
            inputs = any_inputs(chance, text, lengths)
            _, program = any_turned(chance, text, 10)
            made = Machine(text, program, lengths, inputs, lanes=chance.randint(1, 8), block=chance.randint(1, 6), within=chance.randint(1, 5))
            due = {name: {cell: told[1] for cell, told in array.items() if told[0] == "worth"} for name, array in outcomes(text, known, lengths, inputs).items()}
            for at in range(foretold_rows(text, program, lengths)[0] + 1):
                if at % 5 == 0 or made.is_over():
                    self.assertEqual(repr({name: made.array(name) for name in known}), repr(due))
                if made.is_over():
                    break
                made.step()
            arrays, fault = plain_of(text, lengths, inputs)
            self.assertEqual(made.fault(), fault)
            if fault is None:
                self.assertEqual({name: made.array(name) for name in known}, arrays)


def word_of(due, name, cell):
    """The word of the fault to which a cell without a worth comes."""
    told = due[name][cell]
    return told[1] if told[0] == "fault" else word_of(due, told[1], told[2])


if __name__ == "__main__":
    unittest.main()
