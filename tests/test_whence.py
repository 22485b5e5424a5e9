import copy
import unittest
from random import Random

from everycell.errors import NoCell, NoName
from everycell.signs import read
from everycell.whence import lets_way, near, outcomes_of, through, way, whither
from tests.things import (
    FIT, FIT_INPUTS, FIT_LENGTHS, any_fitting, any_inputs, any_lengths, assert_arrays_looked_at, assert_no_cell, assert_no_name, many_things, refused, row_of, told_and_asked,
)


TEXT = read(
    "input a number n\ninput t truth n\ninput k number m\ninput s number\n"
    "d = map over 1 @0 of a\n"  # faulty where a is 0
    "w = where t d a\n"  # lost where t and d is faulty
    "f = fold plus @0 @1 from 0 of w 0\n"
    "r = run plus @0 @1 from 0 of w 0\n"
    "p = pick r k\n"
    "u = put a k k\n"
    "v = put a k p by plus @0 @1\n"
    "i = map if less @0 2 @1 7 of a d\n"
    "c = count 0 of n\n"
    "j = join a d 0"
)
LENGTHS = {"n": 4, "m": 3}
ARRAYS = {"a": row_of(1, 2, 0, 4), "t": row_of(True, False, True, False), "k": row_of(1, 0, 3), "s": {(): (5, 1)}}


def asked_of(name, cell, **more):
    return near(TEXT, LENGTHS, {**ARRAYS, **more}, name, cell)


def outcomes_by(name, **more):
    return outcomes_of(TEXT, LENGTHS, {**ARRAYS, **more}, name)


def reads(name, *numbers):
    return [(name, (number,)) for number in numbers]


class Outcomes(unittest.TestCase):
    def test_inputs(self):
        self.assertEqual(outcomes_by("a"), {(0,): ("worth", (1, 1)), (1,): ("worth", (2, 1)), (2,): ("worth", (0, 1)), (3,): ("worth", (4, 1))})
        self.assertEqual(outcomes_by("t")[(1,)], ("worth", False))
        self.assertEqual(outcomes_by("s"), {(): ("worth", (5, 1))})

    def test_faulty_and_lost(self):
        self.assertEqual(outcomes_by("d"), {(0,): ("worth", (1, 1)), (1,): ("worth", (1, 2)), (2,): ("fault", "nought"), (3,): ("worth", (1, 4))})
        self.assertEqual(list(outcomes_by("w").values()), [("worth", (1, 1)), ("worth", (2, 1)), ("lost", "d", (2,)), ("worth", (4, 1))])
        self.assertEqual(outcomes_by("f"), {(): ("lost", "w", (2,))})
        self.assertEqual(list(outcomes_by("j").values())[4:], [("worth", (1, 1)), ("worth", (1, 2)), ("lost", "d", (2,)), ("worth", (1, 4))])
        self.assertEqual(list(outcomes_by("i").values()), [("worth", (1, 1)), ("worth", (7, 1)), ("lost", "d", (2,)), ("worth", (7, 1))])

    def test_a_run_is_lost_by_its_source_and_not_by_its_own_cell_ahead(self):
        self.assertEqual(list(outcomes_by("r").values()), [("worth", (1, 1)), ("worth", (3, 1)), ("lost", "w", (2,)), ("lost", "w", (2,))])
        text = read("input a number 4\nr = run over @0 @1 from 1 of a 0")
        found = outcomes_of(text, {}, {"a": row_of(1, 0, 0, 1)}, "r")
        self.assertEqual(list(found.values()), [("worth", (1, 1)), ("fault", "nought"), ("fault", "nought"), ("fault", "nought")])

    def test_rows_called_by_words_of_faults(self):
        text = read("input worth number 3\nnought = run over @0 @1 from 1 of worth 0\nlost = map @0 of nought\npick = pick lost worth\nfault = run plus @0 @1 from 0 of pick 0")
        inputs = {"worth": row_of(1, 0, 5)}
        for name, due in (
            ("nought", [("worth", (1, 1)), ("fault", "nought"), ("fault", "nought")]), ("lost", [("worth", (1, 1)), ("lost", "nought", (1,)), ("lost", "nought", (2,))]),
            ("pick", [("lost", "lost", (1,)), ("worth", (1, 1)), ("fault", "pick")]), ("fault", [("lost", "pick", (0,))] * 3),
        ):
            self.assertEqual(list(outcomes_of(text, {}, inputs, name).values()), due)
        self.assertEqual(near(text, {}, inputs, "nought", (2,)), [("worth", (0,)), ("worth", (1,))])

    def test_a_run_along_each_axis(self):
        text = read("input a number 2 3\nr = run over @0 @1 from 1 of a 0\nq = run over @0 @1 from 1 of a 1")
        inputs = {"a": {(0, 0): (1, 1), (0, 1): (0, 1), (0, 2): (2, 1), (1, 0): (4, 1), (1, 1): (5, 1), (1, 2): (1, 1)}}
        self.assertEqual(list(outcomes_of(text, {}, inputs, "r").values()), [("worth", (1, 1)), ("fault", "nought"), ("worth", (1, 2)), ("worth", (1, 4)), ("fault", "nought"), ("worth", (1, 2))])
        self.assertEqual(list(outcomes_of(text, {}, inputs, "q").values()), [("worth", (1, 1)), ("fault", "nought"), ("fault", "nought"), ("worth", (1, 4)), ("worth", (1, 20)), ("worth", (1, 20))])

    def test_pick(self):
        self.assertEqual(list(outcomes_by("p").values()), [("worth", (3, 1)), ("worth", (1, 1)), ("lost", "r", (3,))])
        for wrong in (4, -1, (1, 2)):
            self.assertEqual(outcomes_by("p", k=row_of(0, wrong, 1))[(1,)], ("fault", "pick"))

    def test_put(self):
        self.assertEqual(list(outcomes_by("u").values()), [("worth", (0, 1)), ("worth", (1, 1)), ("worth", (0, 1)), ("worth", (3, 1))])
        self.assertEqual(list(outcomes_by("v").values()), [("worth", (2, 1)), ("worth", (5, 1)), ("worth", (0, 1)), ("lost", "p", (2,))])
        self.assertEqual(outcomes_by("u", k=row_of(2, 2, 1))[(2,)], ("fault", "twice"))
        text = read("input a number 3\ninput k number 3\nd = map over 6 @0 of k\nx = put a d a by over @0 @1\ny = put d k a\nz = put a k d")
        inputs = {"a": row_of(1, 2, 0), "k": row_of(3, 0, 2)}
        # d is 2, faulty, 3
        self.assertEqual(list(outcomes_of(text, {}, inputs, "x").values()), [("lost", "d", (1,))] * 3)
        self.assertEqual(list(outcomes_of(text, {}, inputs, "y").values()), [("worth", (2, 1)), ("lost", "d", (1,)), ("worth", (0, 1))])
        self.assertEqual(list(outcomes_of(text, {}, inputs, "z").values()), [("lost", "d", (1,)), ("worth", (2, 1)), ("worth", (3, 1))])

    def test_no_name(self):
        for ask in (lambda name: outcomes_of(TEXT, LENGTHS, ARRAYS, name),):
            assert_no_name(self, ask)
        self.assertEqual(refused(self, NoName, lambda: outcomes_of(((), ()), {}, {}, "a")).name, "a")

    def test_lengths_of_nought(self):
        arrays = {"a": {}, "t": {}, "k": {}, "s": ARRAYS["s"]}
        self.assertEqual(outcomes_of(TEXT, {"n": 0, "m": 0}, arrays, "r"), {})
        self.assertEqual(outcomes_of(TEXT, {"n": 0, "m": 0}, arrays, "f"), {(): ("worth", (0, 1))})


class Near(unittest.TestCase):
    def test_of_each_deed(self):
        for name, cell, due in (
            ("d", (1,), reads("a", 1)), ("w", (0,), [("t", (0,)), ("d", (0,))]), ("w", (1,), [("t", (1,)), ("a", (1,))]), ("w", (2,), [("t", (2,)), ("d", (2,))]), ("f", (), reads("w", 0, 1, 2)),
            ("r", (0,), reads("w", 0)), ("r", (1,), reads("w", 0, 1)), ("r", (2,), reads("w", 0, 1, 2)), ("r", (3,), reads("w", 0, 1, 2)), ("p", (0,), [("k", (0,)), ("r", (1,))]),
            ("p", (2,), [("k", (2,)), ("r", (3,))]), ("u", (2,), [("a", (2,)), *reads("k", 0, 1, 2)]), ("v", (1,), [("a", (1,)), ("k", (0,)), ("p", (0,)), ("k", (1,)), ("k", (2,))]),
            ("v", (0,), [("a", (0,)), ("k", (0,)), ("k", (1,)), ("p", (1,)), ("k", (2,))]), ("v", (3,), [("a", (3,)), *reads("k", 0, 1, 2), ("p", (2,))]), ("i", (0,), [("a", (0,)), ("d", (0,))]),
            ("i", (1,), reads("a", 1)), ("c", (1,), []), ("j", (3,), reads("a", 3)), ("j", (4,), reads("d", 0)), ("a", (0,), []), ("t", (3,), []), ("s", (), []),
        ):
            self.assertEqual(asked_of(name, cell), due, (name, cell))

    def test_by_what_a_cell_faults(self):
        self.assertEqual(asked_of("d", (2,)), reads("a", 2))
        self.assertEqual(asked_of("p", (0,), k=row_of(9, 9, 9)), reads("k", 0))
        self.assertEqual(asked_of("u", (1,), k=row_of(1, 1, 1)), [("a", (1,)), ("k", (0,)), ("k", (1,))])
        self.assertEqual(asked_of("u", (0,), k=row_of(1, 1, 1)), [("a", (0,)), *reads("k", 0, 1, 2)])

    def test_each_once(self):
        text = read("input a number 2\nx = map plus @0 plus @1 @0 of a a\ny = put a a a by plus @0 @1")
        inputs = {"a": row_of(1, 0)}
        self.assertEqual(near(text, {}, inputs, "x", (1,)), reads("a", 1))
        self.assertEqual(near(text, {}, inputs, "y", (1,)), reads("a", 1, 0))
        self.assertEqual(near(text, {}, inputs, "y", (0,)), reads("a", 0, 1))

    def test_told_anew(self):
        for ask in (lambda: asked_of("r", (2,)), lambda: asked_of("a", (2,)), lambda: through(TEXT, LENGTHS, ARRAYS, "p", (1,)), lambda: whither(TEXT, LENGTHS, ARRAYS, "a", (1,)), lambda: way(TEXT, LENGTHS, ARRAYS, "p", (1,), of="t", at=(0,))):
            kept = copy.deepcopy(ask())
            found = ask()
            self.assertIsInstance(found, list)
            found.append(7)
            self.assertEqual(ask(), kept)
        found = outcomes_by("a")
        found.clear()
        self.assertEqual(len(outcomes_by("a")), 4)

    def test_what_is_handed_in_stays(self):
        lengths, arrays, text = copy.deepcopy((LENGTHS, ARRAYS, TEXT))
        for ask in ASKS:
            ask(text, lengths, arrays, "a", (1,))
        thing = [("d", (1,)), ("a", (1,))]
        lets_way(text, lengths, arrays, thing)
        self.assertEqual((text, lengths, arrays, thing), (TEXT, LENGTHS, ARRAYS, [("d", (1,)), ("a", (1,))]))


class ThroughAndWhither(unittest.TestCase):
    def test_through(self):
        for name, cell, due in (
            ("a", (1,), reads("a", 1)), ("s", (), [("s", ())]), ("d", (2,), reads("a", 2)), ("w", (1,), [("a", (1,)), ("t", (1,))]), ("r", (1,), [*reads("a", 0, 1), *reads("t", 0, 1)]),
            ("r", (3,), [*reads("a", 0, 1, 2), *reads("t", 0, 1, 2)]), ("f", (), [*reads("a", 0, 1, 2), *reads("t", 0, 1, 2)]), ("p", (1,), [("a", (0,)), ("t", (0,)), ("k", (1,))]),
            ("v", (1,), [*reads("a", 0, 1), *reads("t", 0, 1), *reads("k", 0, 1, 2)]), ("c", (0,), []), ("i", (1,), reads("a", 1)),
        ):
            self.assertEqual(through(TEXT, LENGTHS, ARRAYS, name, cell), due, (name, cell))

    def test_whither(self):
        self.assertEqual(whither(TEXT, LENGTHS, ARRAYS, "s", ()), [])
        self.assertEqual(
            whither(TEXT, LENGTHS, ARRAYS, "a", (1,)),
            [("d", (1,)), ("w", (1,)), ("f", ()), *reads("r", 1, 2, 3), *reads("p", 0, 2), ("u", (1,)), *reads("v", 1, 3), ("i", (1,)), ("j", (1,)), ("j", (5,))],
        )
        self.assertEqual(whither(TEXT, LENGTHS, ARRAYS, "a", (3,)), [("d", (3,)), ("w", (3,)), ("u", (3,)), ("v", (3,)), ("i", (3,)), ("j", (3,)), ("j", (7,))])
        self.assertEqual(whither(TEXT, LENGTHS, ARRAYS, "k", (2,)), [("p", (2,)), *reads("u", 0, 1, 2, 3), *reads("v", 0, 1, 2, 3)])

    def test_turned_about_of_one_another(self):
        names = [name for name, _, _ in TEXT[0]]
        cells = [(name, cell) for name in [*names, *[name for name, _ in TEXT[1]]] for cell in outcomes_by(name)]
        for name, cell in cells:
            found = through(TEXT, LENGTHS, ARRAYS, name, cell)
            for of, at in cells:
                if of in names and name not in names:
                    self.assertEqual((of, at) in found, (name, cell) in whither(TEXT, LENGTHS, ARRAYS, of, at))


ASKS = (
    lambda text, lengths, inputs, name, cell: outcomes_of(text, lengths, inputs, name),
    near, through, whither,
    lambda text, lengths, inputs, name, cell: way(text, lengths, inputs, name, cell, of=name, at=cell),
)


class Ways(unittest.TestCase):
    def way(self, name, cell, of, at):
        found = way(TEXT, LENGTHS, ARRAYS, name, cell, of=of, at=at)
        if found is not None:
            self.assertIs(lets_way(TEXT, LENGTHS, ARRAYS, found), True)
        return found

    def test_as_short_as_can_be(self):
        self.assertEqual(self.way("a", (1,), "a", (1,)), reads("a", 1))
        self.assertEqual(self.way("d", (1,), "a", (1,)), [("d", (1,)), ("a", (1,))])
        self.assertEqual(self.way("w", (2,), "a", (2,)), [("w", (2,)), ("d", (2,)), ("a", (2,))])
        self.assertEqual(self.way("r", (3,), "t", (0,)), [("r", (3,)), ("w", (0,)), ("t", (0,))])
        self.assertEqual(self.way("v", (1,), "k", (0,)), [("v", (1,)), ("k", (0,))])
        self.assertEqual(self.way("v", (1,), "a", (0,)), [("v", (1,)), ("p", (0,)), ("r", (1,)), ("w", (0,)), ("d", (0,)), ("a", (0,))])
        self.assertEqual(self.way("i", (0,), "a", (0,)), [("i", (0,)), ("a", (0,))])

    def test_none(self):
        for name, cell, of, at in (("a", (0,), "a", (1,)), ("a", (0,), "t", (0,)), ("d", (1,), "a", (0,)), ("r", (3,), "t", (3,)), ("c", (0,), "a", (0,)), ("i", (1,), "t", (1,)), ("j", (0,), "s", ())):
            self.assertIsNone(self.way(name, cell, of, at), (name, cell, of, at))

    def test_lets_way(self):
        for thing in (
            reads("a", 0), reads("s") + [("s", ())], [("d", (1,)), ("a", (1,))], [("w", (2,)), ("d", (2,)), ("a", (2,))], [("w", (2,)), ("t", (2,))], [("f", ()), ("w", (2,)), ("d", (2,)), ("a", (2,))],
            [("v", (1,)), ("p", (0,)), ("k", (0,))],
        ):
            self.assertIs(lets_way(TEXT, LENGTHS, ARRAYS, thing), True, thing)

    def test_no_way(self):
        for thing in many_things() + [
            [], (), tuple(reads("a", 0)), [["a", (0,)]], [("a", [0])], [("a", 0)], [("a", (4,))], [("a", (0, 0))], [("a", (False,))], [("q", (0,))], [("a",)], [("a", (0,), 1)], [(["a"], (0,))],
            [("d", (1,))], [("d", (1,)), ("a", (2,))], [("d", (1,)), ("t", (1,))], [("a", (1,)), ("a", (1,))], [("a", (1,)), ("d", (1,))], [("a", (1,)), ("d", (1,)), ("a", (1,))], [("c", (0,))],
            [("d", (1,)), ("d", (1,)), ("a", (1,))], [("f", ()), ("w", (3,)), ("a", (3,))], [("v", (2,)), ("p", (0,)), ("k", (0,))], [("r", (1,)), ("r", (0,)), ("w", (0,)), ("t", (0,))],
            [("i", (1,)), ("d", (1,)), ("a", (1,))], [("d", (1,)), ("v", (0,)), ("a", (0,))], [("d", (1,)), None], [None, ("a", (1,))], [("d", (True,)), ("a", (1,))], [("d", (1,)), ("a", (True,))],
            {0: ("a", (0,))}, [("d", (1,)), ("a", (1,)), ()], [("w", (1,)), ("d", (1,)), ("a", (1,))],
        ]:
            self.assertIs(lets_way(TEXT, LENGTHS, ARRAYS, thing), False, repr(thing)[:80])


class Refused(unittest.TestCase):
    def test_arrays_go_ahead(self):
        for ask in ASKS:
            assert_arrays_looked_at(self, lambda text, lengths, inputs: ask(text, lengths, inputs, "q", None))
        assert_arrays_looked_at(self, lambda text, lengths, inputs: lets_way(text, lengths, inputs, None))
        assert_arrays_looked_at(self, lambda text, lengths, inputs: lets_way(thing=[], inputs=inputs, lengths=lengths, text=text))
        assert_arrays_looked_at(self, lambda text, lengths, inputs: way(text, lengths, inputs, "x", (0,), of="x", at=None))
        assert_arrays_looked_at(self, lambda text, lengths, inputs: near(cell=(), name=[], inputs=inputs, lengths=lengths, text=text))

    def test_names_then_cells(self):
        for ask in (near, through, whither, lambda *all: way(*all, of="q", at=()), lambda *all: way(*all, of=None, at=None)):
            assert_no_name(self, lambda name: ask(FIT, FIT_LENGTHS, FIT_INPUTS, name, None))
            assert_no_name(self, lambda name: ask(FIT, FIT_LENGTHS, FIT_INPUTS, name, (0,)))
            for name, sizes in (("a", (1,)), ("t", (2, 1)), ("s", ())):
                assert_no_cell(self, lambda cell: ask(FIT, FIT_LENGTHS, FIT_INPUTS, name, cell), name, sizes)
        for ask in (near, through, lambda *all: way(*all, of="q", at=())):
            assert_no_cell(self, lambda cell: ask(FIT, FIT_LENGTHS, FIT_INPUTS, "x", cell), "x", (1,))

    def test_whither_wants_an_input_s_name(self):
        for name in ("x", "y"):
            for cell in ((0,), (7,), None):
                self.assertEqual(refused(self, NoName, lambda: whither(FIT, FIT_LENGTHS, FIT_INPUTS, name, cell)).name, name)

    def test_a_way_wants_an_input_s_cell_behind(self):
        assert_no_name(self, lambda name: way(FIT, FIT_LENGTHS, FIT_INPUTS, "x", (0,), of=name, at=(0,)), ("x", "y"))
        assert_no_name(self, lambda name: way(FIT, FIT_LENGTHS, FIT_INPUTS, "x", (0,), of=name, at=None), ("x", "y"))
        for name, sizes in (("a", (1,)), ("t", (2, 1)), ("s", ())):
            assert_no_cell(self, lambda at: way(FIT, FIT_LENGTHS, FIT_INPUTS, "x", (0,), of=name, at=at), name, sizes)
        # The first cell goes ahead of the input's name.
        self.assertEqual(refused(self, NoCell, lambda: way(FIT, FIT_LENGTHS, FIT_INPUTS, "x", (1,), of="x", at=(0,))).name, "x")
        with self.assertRaises(TypeError):
            way(FIT, FIT_LENGTHS, FIT_INPUTS, "x", (0,), "a", (0,))


class ByChance(unittest.TestCase):
    def test_beside_the_words(self):
        met = set()
        for seed in range(250):
            chance = Random(seed)
            text, known = any_fitting(chance)
            lengths = any_lengths(chance, text)
            inputs = any_inputs(chance, text, lengths)
            due = told_and_asked(text, known, lengths, inputs)
            for name in known:
                found = outcomes_of(text, lengths, inputs, name)
                self.assertEqual(repr(found), repr({cell: told for cell, (told, _) in due[name].items()}))
                met.update(told[:2] if told[0] == "fault" else told[:1] for told in found.values())
            cells = [(name, cell) for name in known for cell in due[name]]
            for name, cell in chance.sample(cells, min(6, len(cells))):
                self.assertEqual(near(text, lengths, inputs, name, cell), due[name][cell][1], (seed, name, cell))
                self.assert_trails(chance, (text, lengths, inputs), due, name, cell)
        self.assertEqual(met, {("worth",), ("lost",), ("fault", "nought"), ("fault", "pick"), ("fault", "twice")})

    def assert_trails(self, chance, all, due, name, cell):
        """Through, whither and ways of a cell beside the walking from near to near."""
        inputs = [own for own, _, _ in all[0][0]]
        steps, waiting = {(name, cell): 0}, [(name, cell)]
        for own, there in waiting:
            for each in due[own][there][1]:
                if each not in steps:
                    steps[each] = steps[(own, there)] + 1
                    waiting.append(each)
        ends = [(own, there) for own in inputs for there in due[own]]
        self.assertEqual(through(*all, name, cell), [each for each in ends if each in steps])
        for of, at in chance.sample(ends, min(4, len(ends))):
            found = way(*all, name, cell, of=of, at=at)
            self.assertEqual(found is not None, (of, at) in steps)
            if found is not None:
                self.assertEqual((found[0], found[-1], len(found)), ((name, cell), (of, at), steps[(of, at)] + 1))
                self.assertIs(lets_way(*all, found), True)
                self.assertTrue(all_near(due, found))
            if name not in inputs:
                self.assertEqual((name, cell) in whither(*all, of, at), (of, at) in steps)

    def test_other_worths_where_through_and_whither_do_not_lead(self):
        for seed in range(200):
            chance = Random(seed)
            text, known = any_fitting(chance)
            lengths = any_lengths(chance, text)
            inputs, others = any_inputs(chance, text, lengths), any_inputs(chance, text, lengths)
            cells = [(name, cell) for name, _ in text[1] for cell in outcomes_of(text, lengths, inputs, name)]
            for name, cell in chance.sample(cells, min(3, len(cells))):
                kept = through(text, lengths, inputs, name, cell)
                mixed = {own: {at: array[at] if (own, at) in kept else others[own][at] for at in array} for own, array in inputs.items()}
                self.assertEqual(outcomes_of(text, lengths, mixed, name)[cell], outcomes_of(text, lengths, inputs, name)[cell])
            ends = [(own, at) for own in inputs for at in inputs[own]]
            for own, at in chance.sample(ends, min(2, len(ends))):
                turned = {**inputs, own: {**inputs[own], at: others[own][at]}}
                led = whither(text, lengths, inputs, own, at)
                for name, _ in text[1]:
                    one, other = outcomes_of(text, lengths, inputs, name), outcomes_of(text, lengths, turned, name)
                    self.assertEqual([cell for cell in one if (name, cell) not in led and one[cell] != other[cell]], [])


def all_near(due, found):
    return all(other in due[name][cell][1] for (name, cell), other in zip(found, found[1:]))


class Great(unittest.TestCase):
    def test_long_runs_and_puts_take_no_time(self):
        text = read("input a number 1500\nr = run plus @0 @1 from 0 of a 0\nc = count 0 of 1500\nu = put r c r by plus @0 @1\nq = run plus @0 @1 from 0 of u 0")
        inputs = {"a": {(at,): (1, 1) for at in range(1500)}}
        self.assertEqual(outcomes_of(text, {}, inputs, "u")[(1499,)], ("worth", (3000, 1)))
        self.assertEqual(len(through(text, {}, inputs, "q", (1499,))), 1500)
        self.assertEqual(len(whither(text, {}, inputs, "a", (1490,))), 30)
        self.assertEqual(way(text, {}, inputs, "q", (1499,), of="a", at=(7,))[-1], ("a", (7,)))


if __name__ == "__main__":
    unittest.main()
