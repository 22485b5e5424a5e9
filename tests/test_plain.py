import copy
import unittest
from random import Random

from everycell.errors import NoFit, NoInputs, NoLengths
from everycell.plain import plain_of
from everycell.signs import read
from everycell.texts import letters_of
from tests.things import any_fitting, any_inputs, assert_no_text_first, cells_of, many_things, plain_by_words, row_of, table_of

INPUTS = "input a number n m\ninput b number n m\ninput t truth n m\ninput u number n\ninput k number n\ninput s number"
LENGTHS = {"n": 2, "m": 3}
ARRAYS = {
    "a": table_of((1, 2, 3), (4, 5, 6)), "b": table_of((10, 20, 30), (40, 50, 60)), "t": table_of((True, False, True), (False, False, True)),
    "u": row_of((1, 2), 7), "k": row_of(1, 0), "s": {(): (1, 1)},
}


def made(deed, lengths=LENGTHS, arrays=ARRAYS, inputs=INPUTS):
    """The array of a row of this deed, and the fault."""
    told, fault = plain_of(read(f"{inputs}\nx = {deed}"), lengths, arrays)
    return told["x"], fault


class Arrays(unittest.TestCase):
    def assert_made(self, deed, array, lengths=LENGTHS, arrays=ARRAYS, inputs=INPUTS):
        found, fault = made(deed, lengths, arrays, inputs)
        self.assertIsNone(fault, deed)
        self.assertEqual(repr(list(found.items())), repr(list(array.items())), deed)

    def test_map(self):
        self.assert_made("map plus @0 times 2 @1 of a b", table_of((21, 42, 63), (84, 105, 126)))
        self.assert_made("map less @0 2 of u", row_of(True, False))
        self.assert_made("map if @1 @0 0 of a t", table_of((1, 0, 3), (0, 0, 6)))
        self.assert_made("map over @0 1/3 of u", row_of((3, 2), 21))
        self.assert_made("map minus @0 @2 of s s s", {(): (0, 1)})

    def test_count(self):
        self.assert_made("count 0 of n m", table_of((0, 0, 0), (1, 1, 1)))
        self.assert_made("count 1 of n m", table_of((0, 1, 2), (0, 1, 2)))
        self.assert_made("count 0 of 1+2*n", row_of(0, 1, 2, 3, 4))
        self.assert_made("count 2 of 1 n n", {(0, 0, 0): (0, 1), (0, 0, 1): (1, 1), (0, 1, 0): (0, 1), (0, 1, 1): (1, 1)})

    def test_spread(self):
        self.assert_made("spread s 0 m", row_of(1, 1, 1))
        self.assert_made("spread u 0 m", table_of(((1, 2), 7), ((1, 2), 7), ((1, 2), 7)))
        self.assert_made("spread u 1 m", table_of(((1, 2),) * 3, (7, 7, 7)))
        self.assert_made("spread a 1 1", {(row, 0, at): worth for (row, at), worth in ARRAYS["a"].items()})

    def test_turn(self):
        self.assert_made("turn a 1,0", table_of((1, 4), (2, 5), (3, 6)))
        self.assert_made("turn a 0,1", ARRAYS["a"])
        self.assert_made("turn s -", {(): (1, 1)})
        text = read(f"{INPUTS}\ng = spread a 0 1\nx = turn g 2,0,1")
        told, _ = plain_of(text, LENGTHS, ARRAYS)
        self.assertEqual(list(told["x"].items()), [((at, 0, row), ARRAYS["a"][(row, at)]) for at in range(3) for row in range(2)])

    def test_part(self):
        self.assert_made("part a 1 1 2", table_of((2, 3), (5, 6)), inputs=INPUTS.replace("n m", "n 3+m"), lengths={"n": 2, "m": 0})
        self.assert_made("part u 0 n 0", {})
        self.assert_made("part u 0 0 n", ARRAYS["u"])

    def test_join(self):
        self.assert_made("join a b 0", table_of((1, 2, 3), (4, 5, 6), (10, 20, 30), (40, 50, 60)))
        self.assert_made("join b a 1", table_of((10, 20, 30, 1, 2, 3), (40, 50, 60, 4, 5, 6)))
        self.assert_made("join u k 0", row_of((1, 2), 7, 1, 0))

    def test_fold(self):
        self.assert_made("fold plus times 10 @0 @1 from 0 of a 0", row_of(14, 25, 36))
        self.assert_made("fold plus times 10 @0 @1 from 0 of a 1", row_of(123, 456))
        self.assert_made("fold minus @1 @0 from -1/2 of u 0", {(): (6, 1)})
        self.assert_made("fold or @0 @1 from no of t 1", row_of(True, True))
        self.assert_made("fold @0 from 9 of a 0", row_of(9, 9, 9))

    def test_run(self):
        self.assert_made("run plus times 10 @0 @1 from 0 of a 0", table_of((1, 2, 3), (14, 25, 36)))
        self.assert_made("run plus times 10 @0 @1 from 0 of a 1", table_of((1, 12, 123), (4, 45, 456)))
        self.assert_made("run minus @1 @0 from 1 of u 0", row_of((-1, 2), (15, 2)))
        self.assert_made("run and @0 @1 from yes of t 1", table_of((True, False, False), (False, False, False)))

    def test_where(self):
        self.assert_made("where t a b", table_of((1, 20, 3), (40, 50, 6)))

    def test_pick(self):
        self.assert_made("pick u k", row_of(7, (1, 2)))
        self.assert_made("pick a k", table_of((4, 5, 6), (1, 2, 3)))
        self.assert_made("pick a s", row_of(4, 5, 6))
        self.assert_made("pick u s", {(): (7, 1)})
        self.assert_made("pick u c", table_of((7, (1, 2)),), inputs="input u number n\ninput c number 1 n", lengths={"n": 2}, arrays={"u": ARRAYS["u"], "c": table_of((1, 0))})

    def test_put(self):
        self.assert_made("put u k k", row_of(0, 1))
        self.assert_made("put u k u", row_of(7, (1, 2)))
        self.assert_made("put u k u by plus @0 @1", row_of((15, 2), (15, 2)))
        inputs = "input u number 3\ninput k number 4\ninput v number 4"
        arrays = {"u": row_of(1, 2, 3), "k": row_of(2, 2, (1, 2), 9), "v": row_of(10, 20, 30, 40)}
        self.assert_made("put u k v by plus times 2 @0 @1", row_of(1, 2, 52), lengths={}, arrays=arrays, inputs=inputs)
        arrays["k"] = row_of(-1, 2, (1, 2), 3)
        self.assert_made("put u k v", row_of(1, 2, 20), lengths={}, arrays=arrays, inputs=inputs)

    def test_lengths_of_nought(self):
        arrays = {"a": {}, "b": {}, "t": {}, "u": {}, "k": {}, "s": {(): (1, 1)}}
        for deed, array in (
            ("map plus @0 @1 of a b", {}), ("fold plus @0 @1 from 3 of a 0", row_of(3, 3)), ("fold @1 from 3 of a 1", {}), ("fold @1 from 3 of u 0", {(): (3, 1)}), ("run @1 from 3 of a 1", {}),
            ("join u u 0", {}), ("pick u k", {}), ("pick a k", {}), ("put u k k", {}), ("put u k k by over @0 @1", {}), ("spread s 0 n", {}), ("spread s 0 m", row_of(1, 1)), ("count 0 of n m", {}),
        ):
            self.assert_made(deed, array, lengths={"n": 0, "m": 2}, arrays=arrays)

    def test_all_arrays_in_order(self):
        text = read(f"{INPUTS}\nz = turn a 1,0\ny = fold plus @0 @1 from 0 of z 0\nx = map @0 of s")
        told = plain_of(text, LENGTHS, ARRAYS)
        self.assertEqual(told, ({**ARRAYS, "z": table_of((1, 4), (2, 5), (3, 6)), "y": row_of(6, 15), "x": {(): (1, 1)}}, None))
        self.assertEqual(list(told[0]), ["a", "b", "t", "u", "k", "s", "z", "y", "x"])
        self.assertIsInstance(told, tuple)

    def test_cells_in_order_however_handed_in(self):
        arrays = {name: {cell: array[cell] for cell in reversed(list(array))} for name, array in reversed(list(ARRAYS.items()))}
        told, _ = plain_of(read(INPUTS), {"m": 3, "n": 2}, arrays)
        self.assertEqual([list(array) for array in told.values()], [list(array) for array in ARRAYS.values()])

    def test_of_nothing(self):
        self.assertEqual(plain_of(((), ()), {}, {}), ({}, None))
        self.assertEqual(plain_of(text=((), (("x", ("count", ((2, ()),), 0)),)), lengths={}, inputs={}), ({"x": row_of(0, 1)}, None))

    def test_four_thousand_cells(self):
        text = read("input u number 100*n\nr = run plus @0 @1 from 0 of u 0\nk = count 0 of 100*n\np = put u k r\nq = put u k r by plus @0 @1")
        told, fault = plain_of(text, {"n": 40}, {"u": {(at,): (1, 1) for at in range(4000)}})
        self.assertIsNone(fault)
        self.assertEqual([told[name][(3999,)] for name in "rkpq"], [(4000, 1), (3999, 1), (4000, 1), (4001, 1)])

    def test_what_is_handed_in_stays_and_what_is_told_is_new(self):
        text = read(f"{INPUTS}\nx = map @0 of a\ny = run @1 from 0 of u 0")
        lengths, arrays = dict(LENGTHS), copy.deepcopy(ARRAYS)
        kept = copy.deepcopy((lengths, arrays))
        told, _ = plain_of(text, lengths, arrays)
        again = copy.deepcopy(told)
        self.assertEqual((lengths, arrays), kept)
        for array in told.values():
            array.clear()
        told.clear()
        self.assertEqual((lengths, arrays), kept)
        self.assertEqual(plain_of(text, lengths, arrays)[0], again)
        arrays["u"][(0,)] = (8, 1)
        self.assertEqual(plain_of(text, lengths, arrays)[0]["y"], row_of(8, 7))

    def test_chance_texts(self):
        met = {}
        for seed in range(1500):
            chance = Random(seed)
            text, known = any_fitting(chance)
            lengths = {letter: chance.randint(0, 3) for letter in letters_of(text)}
            inputs = any_inputs(chance, text, lengths)
            told, due = plain_of(text, lengths, inputs), plain_by_words(text, known, lengths, inputs)
            self.assertEqual(repr(told), repr(due))
            met[told[1] and told[1][2]] = met.get(told[1] and told[1][2], 0) + 1
        self.assertEqual(set(met), {None, "nought", "pick", "twice"})


class Faults(unittest.TestCase):
    def assert_fault(self, deed, fault, many, arrays=ARRAYS, inputs=INPUTS, lengths=LENGTHS):
        """A row faults so, behind so many cells of it."""
        found, told = made(deed, lengths, arrays, inputs)
        self.assertEqual(told, ("x", *fault), deed)
        self.assertEqual(len(found), many, deed)

    def test_nought(self):
        self.assert_fault("map over 1 minus @0 5 of a", ((1, 1), "nought"), 4)
        self.assert_fault("map over 1 0 of s", ((), "nought"), 0)
        self.assert_fault("fold over @0 minus 5 @1 from 1 of a 0", ((1,), "nought"), 1)
        self.assert_fault("run over @0 minus @1 2 from 1 of a 1", ((0, 1), "nought"), 1)
        self.assert_fault("run over @0 minus @1 4 from 1 of a 0", ((1, 0), "nought"), 3)
        self.assert_fault("put u k k by over @0 @1", ((0,), "nought"), 0)
        self.assert_fault("put u k k by over @1 minus @0 7", ((1,), "nought"), 1)
        self.assert_fault("put u u k by over @1 minus @0 7", ((1,), "nought"), 1, arrays={**ARRAYS, "u": row_of(1, 7), "k": row_of(1, 1)})

    def test_if_takes_one_side_alone(self):
        self.assert_fault("map if less @0 6 1 over 1 0 of a", ((1, 2), "nought"), 5)
        self.assertEqual(made("map if less 0 @0 1 over 1 0 of a")[1], None)

    def test_pick(self):
        for number in (2, 3, -1, (1, 2), (3, 2), (-1, 2)):
            self.assert_fault("pick u k", ((1,), "pick"), 1, arrays={**ARRAYS, "k": row_of(0, number)})
        self.assert_fault("pick a k", ((1, 0), "pick"), 3, arrays={**ARRAYS, "k": row_of(0, 2)})
        self.assert_fault("pick u k", ((0,), "pick"), 0, lengths={"n": 0, "m": 2}, inputs="input u number n\ninput k number m", arrays={"u": {}, "k": row_of(0, 0)})

    def test_twice(self):
        self.assert_fault("put u k k", ((1,), "twice"), 1, arrays={**ARRAYS, "k": row_of(1, 1)})
        self.assert_fault("put u k k", ((0,), "twice"), 0, arrays={**ARRAYS, "k": row_of(0, 0)})
        self.assertEqual(made("put u k k", arrays={**ARRAYS, "k": row_of(2, 2)}), (ARRAYS["u"], None))
        self.assertEqual(made("put u k k", arrays={**ARRAYS, "k": row_of((1, 2), (1, 2))}), (ARRAYS["u"], None))

    def test_the_first_one_with_what_is_ahead(self):
        text = read(f"{INPUTS}\nz = turn a 1,0\ny = map over @0 minus @0 3 of a\nx = pick u u\nw = count 0 of n")
        told, fault = plain_of(text, LENGTHS, ARRAYS)
        self.assertEqual(fault, ("y", (0, 2), "nought"))
        self.assertEqual(list(told), ["a", "b", "t", "u", "k", "s", "z", "y"])
        self.assertEqual(list(told["y"].items()), [((0, 0), (-1, 2)), ((0, 1), (-2, 1))])
        self.assertEqual(told["z"], table_of((1, 4), (2, 5), (3, 6)))

    def test_no_cells_no_fault(self):
        self.assertEqual(made("map over 1 0 of u", lengths={"n": 0, "m": 0}, arrays={"a": {}, "b": {}, "t": {}, "u": {}, "k": {}, "s": {(): (1, 1)}}), ({}, None))


class Refused(unittest.TestCase):
    TEXT = read("input a number n\ninput t truth m n\ninput s number\nx = map plus @0 @0 of a\ny = count 0 of k")
    LENGTHS = {"k": 1, "m": 2, "n": 1}
    INPUTS = {"a": row_of(3), "t": table_of((True,), (False,)), "s": {(): (0, 1)}}

    def refused(self, error, lengths=None, inputs=None, text=None):
        with self.assertRaises(error, msg=repr((lengths, inputs))[:120]) as caught:
            plain_of(text or self.TEXT, self.LENGTHS if lengths is None else lengths[0], self.INPUTS if inputs is None else inputs[0])
        return caught.exception

    def assert_lengths(self, lengths, name, **more):
        self.assertEqual(self.refused(NoLengths, lengths=(lengths,), **more).name, name)

    def assert_inputs(self, inputs, name, **more):
        self.assertEqual(self.refused(NoInputs, inputs=(inputs,), **more).name, name)

    def test_taken(self):
        self.assertIsNone(plain_of(self.TEXT, self.LENGTHS, self.INPUTS)[1])
        for many in (0, 1, 39, 40):
            inputs = {**self.INPUTS, "t": table_of((True,), (False,))}
            self.assertEqual(len(plain_of(self.TEXT, {**self.LENGTHS, "k": many}, inputs)[0]["y"]), many)

    def test_no_text(self):
        assert_no_text_first(self, lambda thing: plain_of(thing, {}, {}))
        assert_no_text_first(self, lambda thing: plain_of(thing, None, None))
        assert_no_text_first(self, lambda thing: plain_of(inputs=[], text=thing, lengths=[]))

    def test_no_fit(self):
        text = read("input a number n\ninput b number m\nx = map @0 of a a\ny = map @0 of a b\nz = map @0 of a b")
        for lengths, inputs in (({"n": 1, "m": 1}, {"a": row_of(1), "b": row_of(1)}), (None, None), ({}, {}), ({"n": 41, "m": 41}, 3)):
            self.assertEqual(self.refused(NoFit, text=text, lengths=(lengths,), inputs=(inputs,)).row, 1)

    def test_no_lengths_at_all(self):
        for thing in many_things() + [{"k": 1, "m": 2}, {"k": 1, "m": 2, "n": 1, "z": 1}, {"k": 1, "m": 2, "z": 1}, {"k": 1, "m": 2, 1: 1}, {"k": 1, "m": 2, ("n",): 1}, {"k": 41}, {}]:
            self.assert_lengths(thing, None)
        for thing in many_things():
            if thing != {}:
                with self.assertRaises(NoLengths) as caught:
                    plain_of(((), ()), thing, {})
                self.assertIsNone(caught.exception.name)

    def test_lengths_of_no_number(self):
        for thing in many_things() + [41, -1, 10 ** 30, "1", (1, 1), None, True, False, [1]]:
            if not (type(thing) is int and 0 <= thing <= 40):
                for letter in "kmn":
                    self.assert_lengths({**self.LENGTHS, letter: thing}, letter)
        self.assert_lengths({"n": 41, "m": -1, "k": 1}, "m")
        self.assert_lengths({"n": 41, "m": 1, "k": None}, "k")
        self.assert_lengths({"n": 41, "m": 1, "k": None, "z": 1}, None)

    def test_no_inputs_at_all(self):
        for thing in many_things() + [
            {}, {"a": row_of(3)}, {**self.INPUTS, "x": row_of(3)}, {**self.INPUTS, "q": {}}, {"a": row_of(3), "t": {}, "q": {}}, {"a": row_of(3), "t": {}, 1: {}}, list(self.INPUTS), tuple(self.INPUTS.items()),
        ]:
            self.assert_inputs(thing, None)
        for thing in many_things():
            if thing != {}:
                with self.assertRaises(NoInputs) as caught:
                    plain_of(((), ()), {}, thing)
                self.assertIsNone(caught.exception.name)

    def test_arrays_that_are_none(self):
        for name in "ats":
            for thing in many_things():
                self.assert_inputs({**self.INPUTS, name: thing}, name)
        for array in (
            {}, row_of(1, 2), {(1,): (1, 1)}, {(-1,): (1, 1)}, {0: (1, 1)}, {(): (1, 1)}, {(0, 0): (1, 1)}, {(False,): (1, 1)}, {"0": (1, 1)}, {("0",): (1, 1)}, {(None,): (1, 1)}, {((0,),): (1, 1)},
            {(0,): (1, 1), (False, False): (1, 1)}, {(0,): (1, 1), "a": (1, 1)},
        ):
            self.assert_inputs({**self.INPUTS, "a": array}, "a")
        for array in (
            table_of((True,)), table_of((True,), (True,), (True,)), table_of((True, True)), {(0, 0): True, (2, 0): True}, {(0, 0): True, (True, 0): True}, {(0, 0): True, (1, False): True}, {(0, 0): True, (1,): True},
        ):
            self.assert_inputs({**self.INPUTS, "t": array}, "t")
        for array in ({}, {(0,): (1, 1)}, {(): (1, 1), (0,): (1, 1)}):
            self.assert_inputs({**self.INPUTS, "s": array}, "s")

    def test_worths_that_are_none_or_of_another_kind(self):
        for thing in many_things() + [(2, 4), (1, 0), (0, 2), (1, -1), (True, 1), (1, True), [1, 1], "1"]:
            self.assert_inputs({**self.INPUTS, "a": {(0,): thing}}, "a")
            self.assert_inputs({**self.INPUTS, "s": {(): thing}}, "s")
            if not isinstance(thing, bool):
                self.assert_inputs({**self.INPUTS, "t": {(0, 0): True, (1, 0): thing}}, "t")
        self.assert_inputs({**self.INPUTS, "t": {(0, 0): (1, 1), (1, 0): True}}, "t")

    def test_the_first_input_in_the_text_s_order(self):
        self.assert_inputs({"s": None, "t": None, "a": None}, "a")
        self.assert_inputs({"s": None, "t": None, "a": row_of(1)}, "t")
        self.assert_inputs({"s": None, "t": {}, "a": row_of(1)}, "t")
        self.assert_inputs({"s": None, "t": None, "q": None}, None)

    def test_lengths_go_ahead_of_inputs(self):
        self.assertIsNone(self.refused(NoLengths, lengths=(None,), inputs=(None,)).name)
        self.assertEqual(self.refused(NoLengths, lengths=({**self.LENGTHS, "m": 41},), inputs=({},)).name, "m")

    def test_an_array_of_more_cells_than_there_could_be(self):
        text = read(f"input a number {10 ** 20}\ninput b number {10 ** 20} {10 ** 20} {10 ** 20}")
        for array in ({}, row_of(1, 2, 3), None):
            with self.assertRaises(NoInputs) as caught:
                plain_of(text, {}, {"a": array, "b": array})
            self.assertEqual(caught.exception.name, "a")

    def test_refused_it_changes_nothing(self):
        inputs = {"a": row_of(3, 4), "t": {}, "s": {}}
        kept = copy.deepcopy(inputs)
        self.assert_inputs(inputs, "a")
        self.assertEqual(inputs, kept)

    def test_all_cells_of_each_shape(self):
        for sizes in ((), (0,), (1,), (3,), (2, 0), (0, 2), (2, 3), (1, 2, 3)):
            text = ((("a", "truth", tuple((size, ()) for size in sizes)),), ())
            array = {cell: True for cell in cells_of(sizes)}
            self.assertEqual(plain_of(text, {}, {"a": array}), ({"a": array}, None))
            for cell in array:
                left = {other: True for other in array if other != cell}
                with self.assertRaises(NoInputs):
                    plain_of(text, {}, {"a": left})
                for more in ((9, *sizes[1:]), (0,) * (len(sizes) + 1), "a", 7):
                    with self.assertRaises(NoInputs):
                        plain_of(text, {}, {"a": {**left, more: True}})


if __name__ == "__main__":
    unittest.main()
