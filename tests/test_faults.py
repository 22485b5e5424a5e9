import copy
import unittest
from random import Random

from everycell.errors import NoCell
from everycell.faults import all_told, first_fault, root_of
from everycell.plain import plain_of
from everycell.signs import read
from tests.things import (
    FIT, FIT_INPUTS, FIT_LENGTHS, any_fitting, any_inputs, any_lengths, assert_arrays_looked_at, assert_no_cell, assert_no_name, plain_by_words, refused, row_of, told_and_asked,
)


TEXT = read("input a number n\ninput k number n\nd = map over 1 @0 of a\ne = map plus @0 1 of d\np = pick e k\nf = fold plus @0 @1 from 0 of p 0\nu = put a k k\nz = map over @0 0 of k\nc = count 0 of n")
LENGTHS = {"n": 3}


def told(*numbers, k=(0, 1, 2)):
    return all_told(TEXT, LENGTHS, {"a": row_of(*numbers), "k": row_of(*k)})


def first(*numbers, k=(0, 1, 2), text=TEXT):
    return first_fault(text, LENGTHS, {"a": row_of(*numbers), "k": row_of(*k)})


SAFE = read("input a number n\ninput k number n\nx = map plus @0 @1 of a k\nf = fold plus @0 @1 from 0 of x 0")


class AllTold(unittest.TestCase):
    def test_where_nothing_faults(self):
        inputs = {"a": row_of(1, 2, 3), "k": row_of(4, 5, 6)}
        found = all_told(SAFE, LENGTHS, inputs)
        self.assertIsInstance(found, tuple)
        self.assertEqual(found, ({**inputs, "x": row_of(5, 7, 9), "f": {(): (21, 1)}}, [], []))
        self.assertEqual(list(found[0]), ["a", "k", "x", "f"])
        self.assertEqual(all_told(((), ()), {}, {}), ({}, [], []))

    def test_several_at_once(self):
        arrays, faults, lost = told(1, 0, 0, k=(0, 1, 7))
        self.assertEqual(arrays, {
            "a": row_of(1, 0, 0), "k": row_of(0, 1, 7), "d": row_of(1, None, None), "e": row_of(2, None, None), "p": row_of(2, None, None), "f": {(): None}, "u": row_of(0, 1, 0),
            "z": row_of(None, None, None), "c": row_of(0, 1, 2),
        })
        self.assertEqual([list(array) for array in arrays.values()], [[()] if name == "f" else [(0,), (1,), (2,)] for name in arrays])
        self.assertEqual(faults, [("d", (1,), "nought"), ("d", (2,), "nought"), ("p", (2,), "pick"), ("z", (0,), "nought"), ("z", (1,), "nought"), ("z", (2,), "nought")])
        self.assertEqual(lost, [("e", (1,), "d", (1,)), ("e", (2,), "d", (2,)), ("p", (1,), "e", (1,)), ("f", (), "p", (1,))])

    def test_a_first_a_middle_and_a_last_row(self):
        text = read("input a number n\nx = map over 1 @0 of a\ny = map plus @0 1 of x\nz = map @0 of a")
        self.assertEqual(all_told(text, LENGTHS, {"a": row_of(1, 2, 0)})[1:], ([("x", (2,), "nought")], [("y", (2,), "x", (2,))]))
        text = read("input a number n\nz = map @0 of a\nx = map over 1 @0 of z\ny = map plus @0 1 of x")
        self.assertEqual(all_told(text, LENGTHS, {"a": row_of(0, 2, 1)})[1:], ([("x", (0,), "nought")], [("y", (0,), "x", (0,))]))
        text = read("input a number n\nz = map @0 of a\nx = put z a z")
        self.assertEqual(all_told(text, LENGTHS, {"a": row_of(0, 0, 1)}), ({"a": row_of(0, 0, 1), "z": row_of(0, 0, 1), "x": row_of(None, 1, 1)}, [("x", (0,), "twice")], []))

    def test_rows_that_fault_of_their_own_behind_lost_ones(self):
        text = read("input a number n\nx = map over 1 @0 of a\ny = map over @0 0 of x\nw = map if less @1 1 over 1 0 @0 of x a")
        self.assertEqual(all_told(text, LENGTHS, {"a": row_of(1, 0, 2)})[1:], ([("x", (1,), "nought"), ("y", (0,), "nought"), ("y", (2,), "nought"), ("w", (1,), "nought")], [("y", (1,), "x", (1,))]))

    def test_told_anew(self):
        kept = copy.deepcopy(told(1, 0, 0))
        found = told(1, 0, 0)
        found[0]["a"].clear()
        found[0].pop("d")
        found[1].append(1)
        found[2].clear()
        self.assertEqual(told(1, 0, 0), kept)
        inputs, lengths = {"a": row_of(1, 0, 0), "k": row_of(0, 1, 2)}, {"n": 3}
        all_told(TEXT, lengths, inputs)[0]["a"][(0,)] = 7
        root_of(TEXT, lengths, inputs, "f", ()).clear()
        first_fault(TEXT, lengths, inputs)[3].clear()
        self.assertEqual((inputs, lengths), ({"a": row_of(1, 0, 0), "k": row_of(0, 1, 2)}, {"n": 3}))
        self.assertEqual(first(1, 0, 0), first(1, 0, 0))

    def test_refused(self):
        assert_arrays_looked_at(self, all_told)
        assert_arrays_looked_at(self, lambda text, lengths, inputs: all_told(inputs=inputs, lengths=lengths, text=text))


class FirstFault(unittest.TestCase):
    def test_with_what_its_rule_asked_for(self):
        self.assertEqual(first(1, 0, 0), ("d", (1,), "nought", [("a", (1,), (0, 1))]))
        self.assertEqual(first(1, 2, 3, k=(2, 5, 0)), ("p", (1,), "pick", [("k", (1,), (5, 1))]))
        self.assertEqual(first(1, 2, 4, k=(1, 1, 0)), ("u", (1,), "twice", [("a", (1,), (2, 1)), ("k", (0,), (1, 1)), ("k", (1,), (1, 1))]))
        self.assertEqual(first(1, 2, 4, k=(2, 1, 0)), ("z", (0,), "nought", [("k", (0,), (2, 1))]))
        self.assertIsInstance(first(1, 0, 0), tuple)
        self.assertIsInstance(first(1, 0, 0)[3], list)

    def test_each_once_in_order(self):
        text = read("input a number n\ninput k number n\nx = map over plus @1 @0 minus @0 @0 of a k")
        self.assertEqual(first(5, 0, 0, text=text), ("x", (0,), "nought", [("k", (0,), (0, 1)), ("a", (0,), (5, 1))]))
        text = read("input a number n\ninput k number n\nr = run over @0 @1 from 1 of a 0")
        self.assertEqual(first(2, 1, 0, text=text), ("r", (2,), "nought", [("a", (0,), (2, 1)), ("a", (1,), (1, 1)), ("a", (2,), (0, 1))]))
        text = read("input a number n\ninput k number n\nu = put a k k by over @0 @1")
        self.assertEqual(first(2, 1, 0, k=(2, 0, 0), text=text), ("u", (0,), "nought", [("a", (0,), (2, 1)), ("k", (0,), (2, 1)), ("k", (1,), (0, 1))]))

    def test_none(self):
        self.assertIsNone(first(1, 2, 3, text=SAFE))
        self.assertIsNone(first_fault(((), ()), {}, {}))

    def test_refused(self):
        assert_arrays_looked_at(self, first_fault)
        assert_arrays_looked_at(self, lambda text, lengths, inputs: first_fault(inputs=inputs, lengths=lengths, text=text))


class Roots(unittest.TestCase):
    def test_of_each_kind_of_cell(self):
        inputs = {"a": row_of(1, 0, 0), "k": row_of(0, 1, 7)}
        for name, cell, due in (
            ("a", (1,), []), ("d", (0,), []), ("c", (2,), []), ("d", (1,), [("d", (1,))]), ("e", (2,), [("e", (2,)), ("d", (2,))]), ("p", (2,), [("p", (2,))]),
            ("p", (1,), [("p", (1,)), ("e", (1,)), ("d", (1,))]), ("f", (), [("f", ()), ("p", (1,)), ("e", (1,)), ("d", (1,))]), ("z", (0,), [("z", (0,))]), ("u", (2,), []),
        ):
            self.assertEqual(root_of(TEXT, LENGTHS, inputs, name, cell), due)

    def test_truths_that_are_false_are_worths(self):
        text = read("input t truth\nx = map not @0 of t")
        for truth in (True, False):
            self.assertEqual([root_of(text, {}, {"t": {(): truth}}, name, ()) for name in "tx"], [[], []])
            self.assertEqual(all_told(text, {}, {"t": {(): truth}}), ({"t": {(): truth}, "x": {(): not truth}}, [], []))

    def test_refused(self):
        assert_arrays_looked_at(self, lambda text, lengths, inputs: root_of(text, lengths, inputs, "q", None))
        assert_arrays_looked_at(self, lambda text, lengths, inputs: root_of(cell=None, name=[], inputs=inputs, lengths=lengths, text=text))
        assert_no_name(self, lambda name: root_of(FIT, FIT_LENGTHS, FIT_INPUTS, name, (0,)))
        assert_no_name(self, lambda name: root_of(FIT, FIT_LENGTHS, FIT_INPUTS, name, None))
        for name, sizes in (("a", (1,)), ("t", (2, 1)), ("s", ()), ("x", (1,)), ("y", (1,))):
            assert_no_cell(self, lambda cell: root_of(FIT, FIT_LENGTHS, FIT_INPUTS, name, cell), name, sizes)
        self.assertEqual(refused(self, NoCell, lambda: root_of(FIT, FIT_LENGTHS, FIT_INPUTS, "y", (1,))).cell, (1,))


class ByChance(unittest.TestCase):
    def test_beside_the_words_and_the_plain_reader(self):
        many = 0
        for seed in range(400):
            chance = Random(seed)
            text, known = any_fitting(chance)
            lengths = any_lengths(chance, text)
            inputs = any_inputs(chance, text, lengths)
            due = told_and_asked(text, known, lengths, inputs)
            outcomes = [(name, cell, told) for name in known for cell, (told, _) in due[name].items()]
            arrays, faults, lost = all_told(text, lengths, inputs)
            self.assertEqual(repr(arrays), repr({name: {cell: told[1] if told[0] == "worth" else None for cell, (told, _) in due[name].items()} for name in known}))
            self.assertEqual(faults, [(name, cell, told[1]) for name, cell, told in outcomes if told[0] == "fault"])
            self.assertEqual(lost, [(name, cell, *told[1:]) for name, cell, told in outcomes if told[0] == "lost"])
            ahead, fault = plain_by_words(text, known, lengths, inputs)
            self.assertEqual((faults or [None])[0], fault)
            self.assertEqual(plain_of(text, lengths, inputs)[1], fault)
            for name, array in ahead.items():
                self.assertEqual(array, {cell: arrays[name][cell] for cell in array})
            found = first_fault(text, lengths, inputs)
            if fault is None:
                self.assertIsNone(found)
            else:
                many += 1
                name, cell, word = fault
                self.assertEqual(found, (name, cell, word, [(other, there, due[other][there][0][1]) for other, there in due[name][cell][1]]))
            for name, cell, told in chance.sample(outcomes, min(5, len(outcomes))):
                way = []
                while told[0] != "worth":
                    way.append((name, cell))
                    if told[0] == "fault":
                        break
                    _, name, cell = told
                    told = due[name][cell][0]
                self.assertEqual(root_of(text, lengths, inputs, *(way[0] if way else (name, cell))), way)
        self.assertGreater(many, 60)


if __name__ == "__main__":
    unittest.main()
