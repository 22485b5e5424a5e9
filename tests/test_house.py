import copy
import unittest
from random import Random

from everycell.errors import Bare, CellError, Faulty, NoCell, NoFit, NoInputs, NoLengths, NoName, NoText, NoWorth
from everycell.house import House
from everycell.plain import plain_of
from everycell.signs import read
from everycell.whence import outcomes_of, whither
from tests.things import (
    FIT, FIT_INPUTS, FIT_LENGTHS, NO_TEXTS, any_fitting, any_inputs, any_lengths, any_worth, assert_arrays_looked_at, assert_no_cell, assert_no_name, many_things, refused, row_of,
    worth_or_fault,
)


INPUTS = "input a number n\ninput t truth n\n"
ROWS = ("d = map over 1 @0 of a", "w = where t d a", "r = run plus @0 @1 from 0 of w 0", "f = fold most @0 @1 from 0 of a 0", "c = count 0 of m")
TEXT = read(INPUTS + "\n".join(ROWS))
LENGTHS = {"n": 3, "m": 2}
ARRAYS = {"a": row_of(1, 2, 4), "t": row_of(True, False, True)}


def house(rows=ROWS):
    return House(read(INPUTS + "\n".join(rows)), LENGTHS, copy.deepcopy(ARRAYS))


def told_by(made):
    """All that a house tells but for how many deeds stand and how many cells were made."""
    text, lengths, inputs = made.text(), made.lengths(), made.inputs()
    names = [name for name, *_ in [*text[0], *text[1]]]
    hows = {}
    for name in names:
        for cell in outcomes_of(text, lengths, inputs, name):
            hows[(name, cell)] = (made.how(name, cell), worth_or_fault(made, name, cell))
    return (text, lengths, inputs, [list(made.array(name).items()) for name in names], made.fault(), hows)


def all_of(made):
    return (told_by(made), len(made), made.made())


class Made(unittest.TestCase):
    def test_as_told(self):
        made = house()
        self.assertEqual((made.text(), made.lengths(), made.inputs(), len(made), made.made()), (TEXT, LENGTHS, ARRAYS, 0, 12))
        self.assertEqual(made.array("w"), row_of(1, 2, (1, 4)))
        self.assertEqual(made.array("r"), row_of(1, 3, (13, 4)))
        self.assertEqual((made.array("a"), made.array("f"), made.array("c")), (ARRAYS["a"], {(): (4, 1)}, row_of(0, 1)))
        self.assertEqual((made.worth("r", (1,)), made.worth("t", (1,)), made.how("r", (1,)), made.how("t", (1,))), ((3, 1), False, "worth", "worth"))
        self.assertIsNone(made.fault())

    def test_faults(self):
        made = House(TEXT, LENGTHS, {**ARRAYS, "a": row_of(1, 0, 0)})
        self.assertEqual(made.fault(), ("d", (1,), "nought"))
        self.assertEqual([made.how("d", (at,)) for at in range(3)], ["worth", "fault", "fault"])
        self.assertEqual([made.how("r", (at,)) for at in range(3)], ["worth", "worth", "lost"])
        for name, cell, due in (("d", (1,), ("d", (1,), "nought")), ("d", (2,), ("d", (2,), "nought")), ("w", (2,), ("d", (2,), "nought")), ("r", (2,), ("d", (2,), "nought"))):
            found = refused(self, Faulty, lambda: made.worth(name, cell))
            self.assertEqual((found.name, found.cell, found.word), due)
        self.assertEqual((made.array("d"), made.array("w"), made.array("r")), (row_of(1), row_of(1, 0), row_of(1, 1)))
        self.assertEqual(made.made(), 12)

    def test_the_first_fault_is_the_plain_reader_s(self):
        text = read("input k number n\ninput a number n\np = pick a k\nu = put a k k\nd = map over 1 @0 of a")
        for numbers in ((0, 1, 2), (0, 5, 1), (1, 1, 0), (2, 0, 1), ((1, 2), 0, 0)):
            for worths in ((1, 1, 1), (1, 0, 1)):
                inputs = {"k": row_of(*numbers), "a": row_of(*worths)}
                self.assertEqual(House(text, {"n": 3}, inputs).fault(), plain_of(text, {"n": 3}, inputs)[1])

    def test_nothing(self):
        made = House(((), ()), {}, {})
        self.assertEqual(told_by(made), (((), ()), {}, {}, [], None, {}))
        self.assertEqual((len(made), made.made()), (0, 0))

    def test_refused(self):
        assert_arrays_looked_at(self, House)
        assert_arrays_looked_at(self, lambda text, lengths, inputs: House(inputs=inputs, lengths=lengths, text=text))

    def test_what_is_handed_in_is_not_kept(self):
        lengths, inputs = copy.deepcopy((LENGTHS, ARRAYS))
        made = House(TEXT, lengths, inputs)
        self.assertEqual((lengths, inputs), (LENGTHS, ARRAYS))
        kept = all_of(made)
        lengths["n"] = 7
        inputs["a"][(0,)] = (0, 1)
        inputs.pop("t")
        self.assertEqual(all_of(made), kept)
        lengths, inputs = {"n": 2, "m": 1}, {"a": row_of(5, 6), "t": row_of(True, True)}
        made.begin_with(lengths, inputs)
        kept = all_of(made)
        lengths.clear()
        inputs["a"].clear()
        self.assertEqual(all_of(made), kept)

    def test_what_is_told_is_the_asker_s(self):
        made = house()
        kept = all_of(made)
        made.lengths()["n"] = 9
        made.inputs()["a"].clear()
        made.inputs().clear()
        made.array("r")[(0,)] = True
        made.array("a").clear()
        self.assertEqual(all_of(made), kept)
        made.change("a", (0,), (7, 1)).clear()
        made.text_is(read(INPUTS + "c = count 0 of m")).append("q")
        made.back()
        made.back()
        self.assertEqual(all_of(made), (kept[0], 0, made.made()))


class Changes(unittest.TestCase):
    def test_what_hangs_on_it_is_made_anew(self):
        made = house()
        self.assertEqual(made.change("a", (1,), (9, 1)), [("d", (1,)), ("w", (1,)), ("r", (1,)), ("r", (2,)), ("f", ())])
        self.assertEqual((len(made), made.made()), (1, 17))
        self.assertEqual((made.array("r"), made.worth("f", ()), made.worth("a", (1,))), (row_of(1, 10, (41, 4)), (9, 1), (9, 1)))
        self.assertEqual(made.change("t", (2,), False), [("w", (2,)), ("r", (2,))])
        self.assertEqual((len(made), made.made(), made.array("r")), (2, 19, row_of(1, 10, 14)))
        # Now w's last cell asks for a, where it asked for d.
        self.assertEqual(made.change("a", (2,), (0, 1)), [("d", (2,)), ("w", (2,)), ("r", (2,)), ("f", ())])
        self.assertEqual((made.how("d", (2,)), made.how("r", (2,)), made.fault()), ("fault", "worth", ("d", (2,), "nought")))
        self.assertEqual(made.inputs(), {"a": row_of(1, 9, 0), "t": row_of(True, False, False)})

    def test_the_same_worth_and_one_on_which_nothing_hangs(self):
        made = house(("c = count 0 of m",))
        self.assertEqual(made.change("a", (0,), (1, 1)), [])
        self.assertEqual((len(made), made.made()), (1, 2))
        made = house()
        self.assertEqual(made.change(worth=True, cell=(0,), name="t"), [("w", (0,)), ("r", (0,)), ("r", (1,)), ("r", (2,))])
        self.assertEqual((len(made), made.made(), made == house()), (1, 16, True))

    def test_it_is_whither_ahead_of_the_change(self):
        made = house(("i = map if @0 @1 0 of t a", "c = count 0 of m"))
        made.change("t", (0,), False)
        self.assertEqual(made.change("a", (0,), (5, 1)), [])
        made.change("t", (0,), True)
        self.assertEqual(made.worth("i", (0,)), (5, 1))
        self.assertEqual(made.change("t", (0,), True), [("i", (0,))])

    def test_dicts_keep_the_order_of_cells(self):
        made = house()
        made.change("a", (0,), (3, 1))
        made.change("t", (1,), True)
        for name in "atdwr":
            self.assertEqual(list(made.array(name)), [(0,), (1,), (2,)])
        self.assertEqual((list(made.inputs()), list(made.inputs()["a"])), (["a", "t"], [(0,), (1,), (2,)]))

    def test_refused(self):
        made = House(FIT, FIT_LENGTHS, FIT_INPUTS)
        kept = all_of(made)
        assert_no_name(self, lambda name: made.change(name, (0,), (1, 1)), ("x", "y"))
        assert_no_name(self, lambda name: made.change(name, None, None), ("x", "y"))
        for name, sizes in (("a", (1,)), ("t", (2, 1)), ("s", ())):
            assert_no_cell(self, lambda cell: made.change(name, cell, (1, 1)), name, sizes)
            assert_no_cell(self, lambda cell: made.change(name, cell, None), name, sizes)
        for thing in many_things() + [(2, 4), (1, 0), (1, True), [1, 1], "yes"]:
            if not isinstance(thing, bool):
                self.assertIsInstance(refused(self, NoWorth, lambda: made.change("t", (0, 0), thing)), CellError)
            refused(self, NoWorth, lambda: made.change("a", (0,), thing))
            refused(self, NoWorth, lambda: made.change("s", (), thing))
        refused(self, NoWorth, lambda: made.change("t", (0, 0), (1, 1)))
        self.assertEqual(all_of(made), kept)


class Begun(unittest.TestCase):
    def test_all_rows_are_made_anew(self):
        made = house()
        self.assertIsNone(made.begin_with({"n": 2, "m": 4}, {"a": row_of(0, 5), "t": row_of(True, True)}))
        self.assertEqual((len(made), made.made(), made.lengths()), (1, 12 + 2 + 2 + 2 + 1 + 4, {"n": 2, "m": 4}))
        self.assertEqual((made.fault(), made.array("w"), made.array("c")), (("d", (0,), "nought"), {(1,): (1, 5)}, row_of(0, 1, 2, 3)))
        made.begin_with(inputs={"a": {}, "t": {}}, lengths={"m": 0, "n": 0})
        self.assertEqual((len(made), made.made(), made.array("f"), made.fault()), (2, 24, {(): (0, 1)}, None))
        self.assertEqual(made, House(TEXT, {"n": 0, "m": 0}, {"a": {}, "t": {}}))

    def test_refused(self):
        made = House(FIT, FIT_LENGTHS, FIT_INPUTS)
        kept = all_of(made)
        for lengths in (None, {}, {"k": 1, "m": 2}, {**FIT_LENGTHS, "z": 1}, *many_things()):
            self.assertIsNone(refused(self, NoLengths, lambda: made.begin_with(lengths, None)).name)
        for thing in many_things() + [41]:
            if not (type(thing) is int and 0 <= thing <= 40):
                self.assertEqual(refused(self, NoLengths, lambda: made.begin_with({**FIT_LENGTHS, "m": thing, "n": thing}, FIT_INPUTS)).name, "m")
                self.assertEqual(refused(self, NoInputs, lambda: made.begin_with(FIT_LENGTHS, {**FIT_INPUTS, "t": thing})).name, "t")
        for inputs, name in ((None, None), ({}, None), ({**FIT_INPUTS, "s": {}}, "s"), ({**FIT_INPUTS, "t": {}, "s": {}}, "t")):
            self.assertEqual(refused(self, NoInputs, lambda: made.begin_with(FIT_LENGTHS, inputs)).name, name)
        self.assertEqual(all_of(made), kept)


class Texts(unittest.TestCase):
    def test_what_stays_and_what_is_made_anew(self):
        made = house()
        for rows, anew, many in (
            (ROWS, [], 0),
            (("c = count 0 of m", "f = fold most @0 @1 from 0 of a 0", *ROWS[:3]), [], 0),
            (("c = count 0 of m", "d = map over 2 @0 of a", "w = where t d a", "f = fold most @0 @1 from 0 of a 0"), ["d", "w"], 6),
            (("d = map over 2 @0 of a", "w = where t d a", "v = where t d a", "c = count 0 of m"), ["v"], 3),
            (("d = map over 2 @0 of a", "w = where t a d", "v = where t d a", "c = count 0 of 1+m"), ["w", "c"], 6),
            (("w = map over 2 @0 of a", "d = where t w a", "v = where t d a", "c = count 0 of 1+m"), ["w", "d", "v"], 9),
            (("c = count 0 of m",), ["c"], 2),
            (("c = count 0 of m", "d = count 0 of m"), ["d"], 2),
        ):
            text, ahead = read(INPUTS + "\n".join(rows)), made.made()
            self.assertEqual(made.text_is(text), anew)
            self.assertEqual((made.text(), made.made()), (text, ahead + many))
            self.assertEqual(told_by(made), told_by(House(text, LENGTHS, ARRAYS)))
        self.assertEqual(len(made), 8)

    def test_no_rows(self):
        inputs = "input a number n\ninput b number m\n"
        made = House(read(inputs + "x = map @0 of a"), LENGTHS, {"a": row_of(1, 2, 3), "b": row_of(1, 1)})
        self.assertEqual(made.text_is(text=read(inputs[:-1])), [])
        self.assertEqual((made.text()[1], made.made(), refused(self, NoName, lambda: made.array("x")).name), ((), 3, "x"))
        self.assertEqual(made.text_is(read(inputs + "x = map @0 of a")), ["x"])

    def test_refused_in_order(self):
        made = house()
        kept = all_of(made)
        for thing in many_things():
            found = refused(self, NoText, lambda: made.text_is(thing))
            self.assertEqual((found.part, found.number), ("text", None))
        for thing, part, number in NO_TEXTS:
            found = refused(self, NoText, lambda: made.text_is(thing))
            self.assertEqual((found.part, found.number), (part, number))
        wrong = "c = count 0 of k\nb = part a 0 n n"
        for inputs in ("", "input a number n\n", "input t truth n\ninput a number n\n", "input a number n\ninput t number n\n", "input a number m\ninput t truth n\n", "input b number n\ninput t truth n\n",
                       INPUTS + "input z truth\n"):
            self.assertIsNone(refused(self, NoInputs, lambda: made.text_is(read(inputs + "c = count 0 of k\ne = count 0 of m"))).name)
            if "a number n" in inputs:
                self.assertIsNone(refused(self, NoInputs, lambda: made.text_is(read(inputs + wrong))).name)
        for rows in (wrong, "c = count 0 of k\ne = count 0 of m", "c = map @0 of a", "c = count 0 of k"):
            self.assertIsNone(refused(self, NoLengths, lambda: made.text_is(read(INPUTS + rows))).name)
        self.assertEqual(refused(self, NoFit, lambda: made.text_is(read(INPUTS + "c = count 0 of m\nb = part a 0 1 n"))).row, 1)
        self.assertEqual(all_of(made), kept)


class Back(unittest.TestCase):
    def test_each_kind_of_deed(self):
        made = house()
        kept = [told_by(made)]
        for deed in (
            lambda: made.change("a", (1,), (0, 1)), lambda: made.text_is(read(INPUTS + "d = map over 1 @0 of a\nc = count 0 of m")), lambda: made.begin_with({"n": 1, "m": 1}, {"a": row_of(0), "t": row_of(True)}),
            lambda: made.change("a", (0,), (0, 1)), lambda: made.text_is(TEXT), lambda: made.change("t", (0,), False), lambda: made.text_is(TEXT),
        ):
            deed()
            kept.append(told_by(made))
        many = made.made()
        for left in reversed(range(7)):
            self.assertEqual(len(made), left + 1)
            self.assertIsNone(made.back())
            self.assertEqual((told_by(made), len(made), made.made()), (kept[left], left, many))
        for _ in range(2):
            refused(self, Bare, made.back)
        self.assertEqual((told_by(made), len(made), made.made()), (kept[0], 0, many))
        self.assertEqual(made.change("a", (1,), (9, 1)), [("d", (1,)), ("w", (1,)), ("r", (1,)), ("r", (2,)), ("f", ())])
        self.assertEqual((len(made), made.made()), (1, many + 5))
        made.back()
        refused(self, Bare, made.back)

    def test_what_hangs_on_what_is_taken_back_with_it(self):
        made = house(("i = map if @0 @1 0 of t a", "c = count 0 of m"))
        made.change("t", (0,), False)
        made.back()
        self.assertEqual(made.change("a", (0,), (5, 1)), [("i", (0,))])
        self.assertEqual(made.worth("i", (0,)), (5, 1))

    def test_refused_deeds_are_not_taken_back(self):
        made = house()
        made.change("a", (0,), (7, 1))
        for ask in (lambda: made.change("q", (0,), (1, 1)), lambda: made.begin_with({}, {}), lambda: made.text_is(None)):
            refused(self, (NoName, NoLengths, NoText), ask)
        made.back()
        self.assertEqual((told_by(made), len(made)), (told_by(house()), 0))


class Asked(unittest.TestCase):
    def test_refused(self):
        made = House(FIT, FIT_LENGTHS, FIT_INPUTS)
        for ask in (made.worth, made.how):
            assert_no_name(self, lambda name: ask(name, (0,)))
            assert_no_name(self, lambda name: ask(name=name, cell=None))
            for name, sizes in (("a", (1,)), ("t", (2, 1)), ("s", ()), ("x", (1,))):
                assert_no_cell(self, lambda cell: ask(name, cell), name, sizes)
        assert_no_name(self, made.array)
        self.assertEqual(refused(self, NoCell, lambda: made.how("a", (1,))).name, "a")


class Twins(unittest.TestCase):
    def test_a_twin_goes_on_by_itself(self):
        made = house()
        made.change("a", (0,), (0, 1))
        made.begin_with(LENGTHS, ARRAYS)
        twin = made.twin()
        self.assertIsInstance(twin, House)
        self.assertEqual(all_of(twin), all_of(made))
        kept = all_of(made)
        twin.change("a", (1,), (5, 1))
        twin.text_is(read(INPUTS + "c = count 0 of m"))
        self.assertEqual((all_of(made), twin.made(), len(twin)), (kept, made.made() + 5, 4))
        for _ in range(4):
            twin.back()
        refused(self, Bare, twin.back)
        self.assertEqual(all_of(made), kept)
        kept = all_of(twin)
        made.back()
        made.change("t", (0,), False)
        self.assertEqual(all_of(twin), kept)
        self.assertEqual(told_by(twin), told_by(house()))

    def test_alike(self):
        made = house()
        self.assertIs(made == house(), True)
        self.assertIs(made != house(), False)
        made.change("a", (0,), (1, 1))
        self.assertIs(made == house(), True)
        made.change("a", (0,), (2, 1))
        self.assertIs(made == house(), False)
        self.assertIs(made != house(), True)
        made.back()
        self.assertIs(made == house(), True)
        self.assertIs(made == made.twin(), True)
        self.assertIs(made == house(ROWS[:4] + ("c = count 0 of 1+m",)), False)
        self.assertIs(made == House(TEXT, {"n": 3, "m": 3}, ARRAYS), False)
        self.assertIs(made == House(TEXT, LENGTHS, {**ARRAYS, "t": row_of(True, True, True)}), False)
        self.assertIs(House(TEXT, {"m": 2, "n": 3}, {"t": ARRAYS["t"], "a": dict(reversed(ARRAYS["a"].items()))}) == made, True)

    def test_like_nothing_else(self):
        made = House(((), ()), {}, {})
        for thing in many_things() + [((), ()), (((), ()), {}, {})]:
            self.assertIs(made == thing, False)
            self.assertIs(made != thing, True)


class ByChance(unittest.TestCase):
    def test_behind_many_deeds_all_is_as_made_from_nothing(self):
        for seed in range(120):
            chance = Random(seed)
            text, known = any_fitting(chance)
            lengths = any_lengths(chance, text)
            made = House(text, lengths, any_inputs(chance, text, lengths))
            kept, many = [], made.made()
            for _ in range(8):
                ahead = told_by(made)
                many += self.deed(chance, made, kept)
                if len(made) > len(kept):
                    kept.append(ahead)
                self.assertEqual(made.made(), many)
                again = House(made.text(), made.lengths(), made.inputs())
                self.assertEqual(told_by(made), told_by(again))
                self.assertEqual(made, again)
                self.assertEqual(made.fault(), plain_of(made.text(), made.lengths(), made.inputs())[1])

    def deed(self, chance, made, kept):
        """Does a deed by chance, and tells how many cells have to have been made by it."""
        text, lengths, inputs = made.text(), made.lengths(), made.inputs()
        cells = [(name, cell) for name in inputs for cell in inputs[name]]
        word = chance.choice(["change", "change", "change", "begin", "text", "back"])
        if word == "back" and kept:
            made.back()
            self.assertEqual(told_by(made), kept.pop())
            return 0
        if word == "begin":
            lengths = any_lengths(chance, text)
            made.begin_with(lengths, any_inputs(chance, text, lengths))
            return sum(len(outcomes_of(text, lengths, made.inputs(), name)) for name, _ in text[1])
        if word == "text":
            changed = [
                (name, deed if deed[0] not in ("run", "fold") or chance.random() < 0.5 else (*deed[:2], any_worth(chance, "truth" if isinstance(deed[2], bool) else "number"), *deed[3:]))
                for name, deed in text[1]
            ]
            anew = made.text_is((text[0], tuple(changed)))
            return sum(len(outcomes_of(made.text(), lengths, inputs, name)) for name in anew)
        if cells:
            name, cell = chance.choice(cells)
            due = whither(text, lengths, inputs, name, cell)
            kind = "truth" if isinstance(inputs[name][cell], bool) else "number"
            self.assertEqual(made.change(name, cell, chance.choice([any_worth(chance, kind), (chance.randint(0, 3), 1) if kind == "number" else True])), due)
            return len(due)
        return 0


if __name__ == "__main__":
    unittest.main()
