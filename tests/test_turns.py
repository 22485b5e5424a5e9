import unittest
from random import Random

from everycell.errors import NoFit, NoProgram, NoTurn, TooMany
from everycell.looker import lets
from everycell.programs import plain_program
from everycell.signs import read
from everycell.turns import is_joined, turned, turned_all
from tests.things import any_fitting, any_turn, any_turned, assert_no_text_first, many_things

NOUGHT, ONE, N, M = (0, ()), (1, ()), (0, (("n", 1),)), (0, (("m", 1),))
I, J, V, W = ((0, ((name, 1),)) for name in ("i0", "i1", "v0", "v1"))
PLUS = ("plus", ("arg", 0), ("arg", 1))
INPUTS = "input a number n m\ninput u number n\ninput k number n\ninput s number\ninput t truth n"
WHOLE = (("i0", NOUGHT, N),)
WAY = (("whole", "i0"),)
DOWN, ACROSS = ("i0", NOUGHT, N), ("i1", NOUGHT, M)


def text_of(*rows, inputs=INPUTS):
    return read("\n".join([inputs, *rows]))


def own(*names, **places):
    return tuple((name, places.get(name, name)) for name in sorted(names))


def u(number):
    """A map's term: the cell of u and a number."""
    return ("plus", ("read", "u", (I,)), ("number", number, 1))


class Case(unittest.TestCase):
    def assert_turned(self, text, turns, due):
        """Turns done on the plain program tell what is due, which is let by; each elder program stays."""
        program = plain_program(text)
        for turn in turns:
            kept = repr(program)
            told = turned(text, program, turn)
            self.assertEqual(repr(program), kept)
            self.assertTrue(lets(text, told))
            program = told
        self.assertEqual(program, due)
        self.assertEqual(repr(turned_all(text, turns)), repr(due))
        self.assertTrue(lets(text, due))

    def assert_why(self, why, text, turn, *ahead, program=None):
        program = turned_all(text, ahead) if program is None else program
        kept = repr((text, program, turn)) if len(repr(turn)) < 10 ** 5 else None
        with self.assertRaises(NoTurn, msg=repr(turn)[:100]) as caught:
            turned(text, program, turn)
        self.assertEqual(caught.exception.why, why, repr(turn)[:100])
        if kept:
            self.assertEqual(repr((text, program, turn)), kept)
        with self.assertRaises(NoTurn) as caught:
            turned_all(text, [*ahead, turn])
        self.assertEqual(caught.exception.why, why)


class Forms(Case):
    TEXT = text_of("x = map plus @0 1 of u", "r = run plus @0 @1 from 0 of x 0", "y = turn a 1,0")
    RIGHT = (
        ("fuse", "x"), ("exchange", 2, (("whole", "i1"), ("whole", "i0"))), ("tile", 0, "i0", 2), ("split", 0, "i0", NOUGHT), ("together", 0), ("carry", "r"), ("wide", 0), ("share", "r", "r"),
    )

    def test_things_of_every_kind(self):
        for thing in many_things() + [
            (), ("fuse",), ("fuse", "x", "x"), ("exchange", 2), ("tile", 0, "i0"), ("tile", 0, "i0", 2, 2), ("split", 0, "i0"), ("together",), ("together", 0, 1), ("carry",), ("carry", "r", 0), ("wide",), ("wide", 0, True), ("share", "r"),
            ("share", "r", "r", "r"), ("Fuse", "x"), ("fused", "x"), ("", "x"), (["fuse"], "x"), ({}, "x"), (None, 0), (0, 0), ("turn",), "fuse", ("fuse x",),
        ]:
            self.assert_why("turn", self.TEXT, thing)

    def test_lists_in_the_place_of_tuples(self):
        for turn in self.RIGHT:
            self.assert_why("turn", self.TEXT, list(turn))
            for at, part in enumerate(turn):
                if isinstance(part, tuple):
                    self.assert_why("turn", self.TEXT, (*turn[:at], list(part), *turn[at + 1:]))
        self.assert_why("turn", self.TEXT, ("exchange", 2, (["whole", "i1"], ["whole", "i0"])))

    def test_each_part_exchanged_for_things_of_every_kind(self):
        for turn in self.RIGHT:
            for at, part in enumerate(turn):
                if part == "split" or (turn[0] in ("split", "tile", "exchange", "together", "wide") and at == 1):
                    continue
                for thing in many_things():
                    is_width = turn[0] == "tile" and at == 3 and type(thing) is int and 1 <= thing <= 8
                    if not is_width and not (turn[0] == "split" and at == 3):
                        self.assert_why("turn", self.TEXT, (*turn[:at], thing, *turn[at + 1:]))

    def test_nests(self):
        for turn in self.RIGHT:
            if turn[0] not in ("split", "tile", "exchange", "together", "wide"):
                continue
            for thing in [thing for thing in many_things() if type(thing) is not int] + [-1, -3, 3, 4, 10 ** 30, True, False, "0", (0,), [0], None]:
                self.assert_why("turn", self.TEXT, (turn[0], thing, *turn[2:]))
        self.assert_why("turn", self.TEXT, ("together", 2))
        self.assert_why("ranges", self.TEXT, ("together", 1))
        for turn in (("together", 0), ("wide", 0), ("exchange", 0, ()), ("split", 0, "i0", NOUGHT), ("tile", 0, "i0", 1)):
            self.assert_why("turn", ((), ()), turn)

    def test_names(self):
        for name in ("u", "a", "q", "n", "i0", "", "X", ("x",), ["x"], 0, None, True):
            for turn in (("fuse", name), ("carry", name), ("share", name, "x"), ("share", "x", name), ("share", name, name)):
                self.assert_why("turn", self.TEXT, turn)
        # What was made and isn't any more.
        for turn in (("fuse", "x"), ("carry", "x"), ("share", "x", "r"), ("share", "r", "x")):
            self.assert_why("turn", self.TEXT, turn, ("fuse", "x"))

    def test_vars(self):
        for var in ("i1", "i2", "v0", "i", "n", "", "i00", 0, ("i0",), ["i0"], None, I):
            self.assert_why("turn", self.TEXT, ("tile", 0, var, 2))
            self.assert_why("turn", self.TEXT, ("split", 0, var, NOUGHT))
        scalar = text_of("x = turn s -")
        self.assert_why("turn", scalar, ("tile", 0, "i0", 2))
        self.assert_why("turn", scalar, ("split", 0, "i0", NOUGHT))

    def test_widths(self):
        for width in (0, 9, -1, True, False, "2", (2,), [2], None, 10 ** 30, (2, ())):
            self.assert_why("turn", self.TEXT, ("tile", 0, "i0", width))
            self.assert_why("turn", self.TEXT, ("tile", 0, "i0", width), ("tile", 0, "i0", 2))
        for width in range(1, 9):
            told = turned(self.TEXT, plain_program(self.TEXT), ("tile", 0, "i0", width))
            self.assertEqual(told[0][0][1], (("outer", "i0", width), ("inner", "i0", width)))

    def test_where_it_is_split(self):
        for at in [thing for thing in many_things()] + [
            (0,), (True, ()), (0, []), (0, (("n", 0),)), (0, (("n", True),)), (0, (("nn", 1),)), (0, (("i0", 1),)), (0, (("N", 1),)), (0, (("n", 1), ("m", 1))), (0, (("n", 1), ("n", 1))), [0, ()], (0, ("n", 1)), 0, "n", "0", (0, (("", 1),)),
        ]:
            self.assert_why("turn", self.TEXT, ("split", 0, "i0", at))

    def test_items(self):
        first, second = ("whole", "i0"), ("whole", "i1")
        for order in (
            (), (first,), (first, first), (first, second, second), (first, ("whole", "i2")), (("outer", "i0", 2), ("inner", "i0", 2), second), (second, ("whole", "i0", 1)), "whole", (first, "i1"), (first, ["whole", "i1"]), (first, ("whole", ["i1"])), (first, ("whole",)),
            (first, None), None, (first, second, None), ((), ()), (("Whole", "i0"), second),
        ):
            self.assert_why("turn", self.TEXT, ("exchange", 2, order))
        ahead = ("tile", 2, "i0", 1)
        for order in (
            (("outer", "i0", True), second, ("inner", "i0", True)), (("outer", "i0", 2), second, ("inner", "i0", 2)), (first, second), (("outer", "i0", 1), second), (("outer", "i0", 1), second, ("outer", "i0", 1)), (("outer", "i0", 1), second, ("inner", "i0", 2)),
            (("outer", ["i0"], 1), ("outer", "i0", 1), second), (("outer", "i0", 1), ("inner", ["i0"], 1), ("inner", "i0", 1)), (("outer", 0, 1), ("outer", "i0", 1), second), (("whole", 1), ("whole", "i1"), ("outer", "i0", 1)),
            (("outer", "i0"), second, ("inner", "i0", 1)), (("outer", "i0", (1,)), second, ("inner", "i0", 1)), (("outer", "i0", 0), second, ("inner", "i0", 1)),
        ):
            self.assert_why("turn", self.TEXT, ("exchange", 2, order), ahead)


class Fuse(Case):
    def test_done(self):
        text = text_of("x = map plus @0 1 of u", "y = map times @0 @0 of x", "z = fold plus @0 @1 from 0 of x 0")
        self.assert_turned(text, [("fuse", "x")], (
            ((WHOLE, WAY, False, (("y", ("times", u(1), u(1))),)), ((), (), False, (("z", ("fold", "v0", N, PLUS, (0, 1), ("plus", ("read", "u", (V,)), ("number", 1, 1)))),))),
            own("y", "z"),
        ))

    def test_of_what_nothing_reads(self):
        text = text_of("x = map plus @0 1 of u", "y = map plus @0 2 of u")
        self.assert_turned(text, [("fuse", "y")], (((WHOLE, WAY, False, (("x", u(1)),)),), own("x")))
        self.assert_turned(text, [("fuse", "y"), ("fuse", "x")], ((), ()))

    def test_again_and_again(self):
        text = text_of("x = map plus @0 1 of u", "y = part x 0 0 n", "z = join y x 0")
        end = (0, (("n", 2),))
        behind = ("plus", ("read", "u", ((0, (("i0", 1), ("n", -1))),)), ("number", 1, 1))
        due = (((("i0", NOUGHT, end),), WAY, False, (("z", ("below", I, N, u(1), behind)),)),)
        self.assert_turned(text, [("fuse", "x"), ("fuse", "y")], (due, own("z")))
        self.assert_turned(text, [("fuse", "y"), ("fuse", "x")], (due, own("z")))

    def test_vars_by_how_many_stand_around(self):
        text = text_of("x = fold plus @0 @1 from 0 of a 1", "y = fold times @0 @1 from 1 of x 0")
        inner = ("fold", "v1", M, PLUS, (0, 1), ("read", "a", (V, W)))
        self.assert_turned(text, [("fuse", "x")], ((((), (), False, (("y", ("fold", "v0", N, ("times", ("arg", 0), ("arg", 1)), (1, 1), inner)),)),), own("y")))

    def test_some_of_a_nest_s_makes(self):
        text = text_of("x = map plus @0 1 of u", "y = map plus @0 2 of x", "z = map plus @0 3 of y")
        self.assert_turned(text, [("together", 0), ("together", 0), ("fuse", "y")], (
            ((WHOLE, WAY, False, (("x", u(1)), ("z", ("plus", ("plus", ("read", "x", (I,)), ("number", 2, 1)), ("number", 3, 1))))),), own("x", "z")))

    def test_all_makes_of_a_split_name(self):
        text = text_of("x = map plus @0 1 of u", "y = map plus @0 2 of x")
        self.assert_turned(text, [("split", 0, "i0", NOUGHT), ("fuse", "x")], (((WHOLE, WAY, False, (("y", ("plus", u(1), ("number", 2, 1))),)),), own("y")))

    def test_in_what_is_carried(self):
        text = text_of("x = map plus @0 1 of u", "r = run plus @0 @1 from 0 of x 0")
        self.assert_turned(text, [("carry", "r"), ("fuse", "x")], (((WHOLE, WAY, False, (("r", ("carry", 0, PLUS, (0, 1), u(1))),)),), own("r")))
        self.assert_turned(text, [("fuse", "x"), ("carry", "r")], (((WHOLE, WAY, False, (("r", ("carry", 0, PLUS, (0, 1), u(1))),)),), own("r")))

    def test_safe(self):
        for deed in ("map over 1 @0 of u", "pick u k", "put u k u", "fold over @0 @1 from 0 of a 1", "map over @0 0 of u"):
            self.assert_why("safe", text_of(f"x = {deed}"), ("fuse", "x"))
        for deed in ("map over @0 2 of u", "put u k u by plus @0 @1", "run plus @0 @1 from 0 of u 0", "where t u u", "count 0 of n", "turn u 0", "join u u 0", "spread s 0 n"):
            text = text_of(f"x = {deed}")
            self.assertEqual(turned(text, plain_program(text), ("fuse", "x")), ((), ()))

    def test_pick(self):
        text = text_of("x = map plus @0 1 of u", "y = pick x k")
        self.assert_why("pick", text, ("fuse", "x"))
        text = text_of("x = map plus @0 1 of k", "y = pick u x")
        self.assert_turned(text, [("fuse", "x")], (((WHOLE, WAY, False, (("y", ("pick", "u", ("plus", ("read", "k", (I,)), ("number", 1, 1)), N, ())),)),), own("y")))

    def test_carried(self):
        text = text_of("r = run plus @0 @1 from 0 of u 0")
        self.assert_why("carried", text, ("fuse", "r"), ("carry", "r"))
        self.assertEqual(turned_all(text, [("fuse", "r")]), ((), ()))

    def test_shared(self):
        text = text_of("x = map plus @0 1 of u", "y = map plus @0 2 of u", "z = map plus @0 3 of u")
        self.assert_why("shared", text, ("fuse", "x"), ("share", "y", "x"))
        self.assert_why("shared", text, ("fuse", "y"), ("share", "y", "x"))
        self.assert_why("shared", text, ("fuse", "x"), ("share", "x", "y"))
        self.assert_why("shared", text, ("fuse", "y"), ("share", "x", "y"))
        nests = plain_program(text)[0]
        # Another lies in the place that is called by its name, though it doesn't itself.
        for name in ("x", "y"):
            self.assert_why_of_places("shared", text, nests, ("fuse", name), x="y", y="x")
        self.assert_why_of_places("shared", text, nests, ("fuse", "z"), x="z", z="y", y="x")
        told = turned(text, (nests, own("x", "y", "z", x="y", y="x")), ("fuse", "z"))
        self.assertEqual(told, (nests[:2], own("x", "y", x="y", y="x")))

    def assert_why_of_places(self, why, text, nests, turn, **places):
        with self.assertRaises(NoTurn) as caught:
            turned(text, (nests, own(*[name for name, _ in text[1]], **places)), turn)
        self.assertEqual(caught.exception.why, why)

    def test_shared_by_what_the_looker_would_not_let(self):
        # z lies where x lay, and y, which reads x, is made ahead of z and read behind it.
        text = text_of("x = map plus @0 1 of u", "y = map plus @0 2 of x", "z = map plus @0 3 of u", "w = map plus @0 4 of y")
        ahead = [("share", "z", "x")]
        self.assertTrue(lets(text, turned_all(text, ahead)))
        self.assert_why("shared", text, ("fuse", "y"), *ahead)
        self.assertTrue(lets(text, turned_all(text, [("fuse", "y")])))

    def test_the_first_why(self):
        # Not safe and picked from.
        text = text_of("x = map over 1 @0 of u", "y = pick x k")
        self.assert_why("safe", text, ("fuse", "x"))
        # Not safe, carried and shared.
        text = text_of("r = run over @0 @1 from 0 of u 0", "y = turn u 0")
        self.assert_why("safe", text, ("fuse", "r"), ("carry", "r"), ("share", "y", "r"))
        # Picked from, carried and shared.
        text = text_of("r = run plus @0 @1 from 0 of u 0", "y = pick r k", "z = turn u 0")
        self.assert_why("pick", text, ("fuse", "r"), ("carry", "r"), ("share", "z", "r"))
        # Carried and shared.
        text = text_of("r = run plus @0 @1 from 0 of u 0", "y = turn u 0")
        self.assert_why("carried", text, ("fuse", "r"), ("carry", "r"), ("share", "y", "r"))
        # An input is no made name.
        self.assert_why("turn", text_of("x = pick u k"), ("fuse", "u"))


class Exchange(Case):
    TEXT = text_of("r = run plus @0 @1 from 0 of a 1", "x = turn r 1,0")
    FIRST, SECOND = ("whole", "i0"), ("whole", "i1")

    def test_done(self):
        nests, places = plain_program(self.TEXT)
        ranges, _, wide, makes = nests[0]
        self.assert_turned(self.TEXT, [("exchange", 0, (self.SECOND, self.FIRST))], (((ranges, (self.SECOND, self.FIRST), wide, makes), nests[1]), places))
        self.assert_turned(self.TEXT, [("exchange", 0, (self.FIRST, self.SECOND))], (nests, places))
        self.assert_turned(self.TEXT, [("exchange", 1, (self.SECOND, self.FIRST)), ("exchange", 1, (self.FIRST, self.SECOND))], (nests, places))

    def test_with_tiles(self):
        nests, places = plain_program(self.TEXT)
        ranges, _, wide, makes = nests[0]
        outer, inner = ("outer", "i0", 3), ("inner", "i0", 3)
        for order in ((outer, inner, self.SECOND), (self.SECOND, outer, inner), (outer, self.SECOND, inner)):
            self.assert_turned(self.TEXT, [("tile", 0, "i0", 3), ("exchange", 0, order)], (((ranges, order, wide, makes), nests[1]), places))
        for order in ((inner, outer, self.SECOND), (self.SECOND, inner, outer), (inner, self.SECOND, outer)):
            self.assert_why("order", self.TEXT, ("exchange", 0, order), ("tile", 0, "i0", 3))

    def test_without_items(self):
        text = text_of("x = turn s -")
        self.assert_turned(text, [("exchange", 0, ())], plain_program(text))
        self.assert_why("turn", text, ("exchange", 0, (self.FIRST,)))

    def test_wide(self):
        ahead = [("carry", "r"), ("exchange", 0, (self.SECOND, self.FIRST)), ("wide", 0)]
        self.assert_why("wide", self.TEXT, ("exchange", 0, (self.FIRST, self.SECOND)), *ahead)
        self.assert_turned(self.TEXT, [*ahead[:2], ("exchange", 0, (self.FIRST, self.SECOND))], turned_all(self.TEXT, ahead[:1]))
        self.assertTrue(turned_all(self.TEXT, [("wide", 0), ("exchange", 0, (self.SECOND, self.FIRST))])[0][0][2])


class Tile(Case):
    def test_done(self):
        text = text_of("x = map plus @0 1 of a")
        (nest,), places = plain_program(text)
        for var, order in (("i0", (("outer", "i0", 3), ("whole", "i1"), ("inner", "i0", 3))), ("i1", (("whole", "i0"), ("outer", "i1", 3), ("inner", "i1", 3)))):
            self.assert_turned(text, [("tile", 0, var, 3)], (((nest[0], order, False, nest[3]),), places))
        self.assert_turned(text, [("tile", 0, "i1", 2), ("tile", 0, "i0", 8)], (
            ((nest[0], (("outer", "i0", 8), ("outer", "i1", 2), ("inner", "i1", 2), ("inner", "i0", 8)), False, nest[3]),), places))

    def test_order(self):
        text = text_of("x = map plus @0 1 of a")
        self.assert_why("order", text, ("tile", 0, "i0", 3), ("tile", 0, "i0", 3))
        self.assert_why("order", text, ("tile", 0, "i0", 2), ("tile", 0, "i0", 3))
        self.assertTrue(turned_all(text, [("tile", 0, "i0", 3), ("tile", 0, "i1", 3)]))

    def test_wide(self):
        text = text_of("r = run plus @0 @1 from 0 of a 0")
        ahead = [("carry", "r"), ("wide", 0)]
        self.assert_why("wide", text, ("tile", 0, "i0", 2), *ahead)
        told = turned_all(text, [*ahead, ("tile", 0, "i1", 2)])
        self.assertEqual(told[0][0][1:3], ((("whole", "i0"), ("outer", "i1", 2), ("inner", "i1", 2)), True))
        self.assertTrue(turned_all(text, [("carry", "r"), ("tile", 0, "i0", 2)]))


class Split(Case):
    def test_done(self):
        text = text_of("x = map plus @0 1 of u", inputs="input u number 3+n")
        end = (3, (("n", 1),))
        make = (("x", u(1)),)
        for at in (NOUGHT, ONE, (3, ()), N, (2, (("n", 1),)), end):
            self.assert_turned(text, [("split", 0, "i0", at)], ((((("i0", NOUGHT, at),), WAY, False, make), ((("i0", at, end),), WAY, False, make)), own("x")))
        for at in ((4, ()), (4, (("n", 1),)), (0, (("n", 2),)), M, (3, (("m", 1),)), (-1, ()), (3, (("n", -1),)), (0, (("z", 1),)), (1, (("n", 1), ("z", 1))), (-1, (("n", 1),))):
            self.assert_why("split", text, ("split", 0, "i0", at))

    def test_by_a_letter_that_the_text_has_not(self):
        text = text_of("x = map plus @0 1 of u")
        with self.assertRaises(NoTurn) as caught:
            turned(text, plain_program(text), ("split", 0, "i0", (0, (("z", 1),))))
        self.assertIn(caught.exception.why, ("turn", "split"))

    def test_pieces_split_again(self):
        text = text_of("x = map plus @0 1 of u", "y = turn u 0", inputs="input u number 3+n")
        end, make = (3, (("n", 1),)), (("x", u(1)),)
        pieces = [((("i0", begin, behind),), WAY, False, make) for begin, behind in ((NOUGHT, ONE), (ONE, (2, ())), ((2, ()), end))]
        last = plain_program(text)[0][1]
        self.assert_turned(text, [("split", 0, "i0", ONE), ("split", 1, "i0", (2, ()))], ((*pieces, last), own("x", "y")))
        self.assert_turned(text, [("split", 0, "i0", (2, ())), ("split", 0, "i0", ONE)], ((*pieces, last), own("x", "y")))
        self.assert_why("split", text, ("split", 0, "i0", (2, ())), ("split", 0, "i0", ONE))
        self.assert_why("split", text, ("split", 1, "i0", NOUGHT), ("split", 0, "i0", ONE))

    def test_with_order_and_wide(self):
        text = text_of("x = map plus @0 1 of a", "y = turn a 0,1")
        told = turned_all(text, [("together", 0), ("tile", 0, "i0", 2), ("wide", 0), ("split", 0, "i1", NOUGHT)])
        nest = turned_all(text, [("together", 0), ("tile", 0, "i0", 2), ("wide", 0)])[0][0]
        self.assertEqual(told[0], (((DOWN, ("i1", NOUGHT, NOUGHT)), *nest[1:]), ((DOWN, ACROSS), *nest[1:])))

    def test_carried(self):
        text = text_of("r = run plus @0 @1 from 0 of a 0")
        self.assert_why("carried", text, ("split", 0, "i0", NOUGHT), ("carry", "r"))
        self.assert_why("carried", text, ("split", 0, "i0", N), ("carry", "r"))
        told = turned_all(text, [("carry", "r"), ("split", 0, "i1", M)])
        self.assertEqual([ranges for ranges, _, _, _ in told[0]], [(DOWN, ACROSS), (DOWN, ("i1", M, M))])
        # One carried of two makes is enough.
        two = text_of("r = run plus @0 @1 from 0 of a 0", "x = turn a 0,1")
        self.assert_why("carried", two, ("split", 0, "i0", NOUGHT), ("carry", "r"), ("together", 0))
        # Of a place that is none split is the first why.
        self.assert_why("split", text, ("split", 0, "i0", ONE), ("carry", "r"))
        self.assert_why("turn", text, ("split", 0, "i0", None), ("carry", "r"))

    def test_what_the_looker_would_not_let(self):
        text = text_of("x = map plus @0 1 of a", "y = map plus @0 2 of x", "z = spread s 0 0")
        self.assert_why("split", text, ("split", 0, "i1", NOUGHT), ("split", 0, "i0", NOUGHT))
        self.assert_why("split", text, ("split", 1, "i1", NOUGHT), ("split", 0, "i0", NOUGHT))
        # Of several not all are the whole.
        self.assert_why("split", text, ("split", 2, "i0", NOUGHT))


class Together(Case):
    TEXT = text_of("x = map plus @0 1 of u", "y = map plus @0 2 of x", "r = run plus @0 @1 from 0 of y 0", "z = turn a 0,1")

    def test_done(self):
        nests, places = plain_program(self.TEXT)
        y = ("plus", ("read", "x", (I,)), ("number", 2, 1))
        self.assert_turned(self.TEXT, [("together", 0)], (((WHOLE, WAY, False, (("x", u(1)), ("y", y))), *nests[2:]), places))
        carried = ("carry", 0, PLUS, (0, 1), ("read", "y", (I,)))
        self.assert_turned(self.TEXT, [("carry", "r"), ("together", 0), ("together", 0)], (((WHOLE, WAY, False, (("x", u(1)), ("y", y), ("r", carried))), nests[3]), places))

    def test_turn_of_the_last_one(self):
        self.assert_why("turn", self.TEXT, ("together", 3))
        self.assert_why("turn", text_of("x = turn u 0"), ("together", 0))

    def test_ranges(self):
        self.assert_why("ranges", self.TEXT, ("together", 2))
        self.assert_why("ranges", self.TEXT, ("together", 0), ("tile", 1, "i0", 2))
        self.assert_why("ranges", self.TEXT, ("together", 0), ("wide", 0))
        self.assert_why("ranges", self.TEXT, ("together", 0), ("tile", 0, "i0", 2), ("tile", 1, "i0", 3))
        self.assertEqual(len(turned_all(self.TEXT, [("wide", 0), ("wide", 1), ("tile", 0, "i0", 2), ("tile", 1, "i0", 2), ("together", 0)])[0]), 3)
        text = text_of("x = turn u 0", "y = count 0 of m")
        self.assert_why("ranges", text, ("together", 0))

    def test_a_split_nest_is_put_together_no_more(self):
        for at in (NOUGHT, N):
            self.assert_why("ranges", self.TEXT, ("together", 0), ("split", 0, "i0", at))
        two = [("split", 0, "i0", NOUGHT), ("split", 2, "i0", NOUGHT)]
        text = text_of("x = map plus @0 1 of u", "y = map plus @0 2 of u")
        self.assert_why("ranges", text, ("together", 1), *two)

    def test_reads(self):
        self.assert_why("reads", self.TEXT, ("together", 1))
        text = text_of("x = map plus @0 1 of u", "y = pick x k")
        self.assert_why("reads", text, ("together", 0))
        text = text_of("x = map plus @0 1 of a", "y = turn x 1,0", inputs="input a number n n")
        self.assert_why("reads", text, ("together", 0))
        text = text_of("x = map plus @0 1 of u", "y = part x 0 0 n")
        self.assertEqual(len(turned_all(text, [("together", 0)])[0]), 1)

    def test_reads_by_what_the_first_shares_or_carries(self):
        text = text_of("x = map plus @0 1 of u", "y = map plus @0 2 of x")
        self.assert_why("reads", text, ("together", 0), ("share", "y", "x"))
        text = text_of("x = map plus @0 1 of u", "y = map plus @0 2 of u", "z = map plus @0 @0 of x")
        self.assert_why("reads", text, ("together", 0), ("share", "x", "z"), ("fuse", "y"))
        self.assertEqual(len(turned_all(text, [("share", "z", "x"), ("together", 0)])[0]), 2)


class Carry(Case):
    def test_done(self):
        text = text_of("r = run plus @0 @1 from 1/2 of a 0")
        (nest,), places = plain_program(text)
        self.assert_turned(text, [("carry", "r")], (((*nest[:3], (("r", ("carry", 0, PLUS, (1, 2), ("read", "a", (I, J)))),)),), places))
        text = text_of("r = run @1 from 0 of a 1")
        self.assertEqual(turned_all(text, [("carry", "r")])[0][0][3], (("r", ("carry", 1, ("arg", 1), (0, 1), ("read", "a", (I, J)))),))

    def test_all_its_makes(self):
        text = text_of("r = run plus @0 @1 from 0 of a 0")
        told = turned_all(text, [("split", 0, "i1", NOUGHT), ("carry", "r")])
        self.assertEqual([makes[0][1][0] for _, _, _, makes in told[0]], ["carry", "carry"])

    def test_with_rules_written_in(self):
        text = text_of("x = fold plus @0 @1 from 0 of a 1", "r = run plus @0 @1 from 0 of x 0")
        inner = ("fold", "v0", M, PLUS, (0, 1), ("read", "a", (I, V)))
        self.assert_turned(text, [("fuse", "x"), ("carry", "r")], (((WHOLE, WAY, False, (("r", ("carry", 0, PLUS, (0, 1), inner)),)),), own("r")))

    def test_run(self):
        text = text_of("r = run plus @0 @1 from 0 of u 0", "f = fold plus @0 @1 from 0 of u 0", "x = turn u 0")
        self.assert_why("run", text, ("carry", "f"))
        self.assert_why("run", text, ("carry", "x"))
        self.assert_why("run", text, ("carry", "r"), ("carry", "r"))
        text = text_of("r = run plus @0 @1 from 0 of a 0")
        down, none = (DOWN, ACROSS), (DOWN, ("i1", NOUGHT, NOUGHT))
        way = plain_program(text)[0][0][1]
        rule = plain_program(text)[0][0][3]
        term = (("r", ("carry", 0, PLUS, (0, 1), ("read", "a", (I, J)))),)
        program = (((none, way, False, rule), (down, way, False, term)), own("r"))
        with self.assertRaises(NoTurn) as caught:
            turned(text, program, ("carry", "r"))
        self.assertEqual(caught.exception.why, "run")

    def test_carried(self):
        text = text_of("r = run plus @0 @1 from 0 of a 0")
        self.assert_why("carried", text, ("carry", "r"), ("split", 0, "i0", NOUGHT))
        self.assert_why("carried", text, ("carry", "r"), ("exchange", 0, (("whole", "i1"), ("whole", "i0"))), ("wide", 0))
        self.assertTrue(turned_all(text, [("wide", 0), ("carry", "r")]))


class Wide(Case):
    def test_done(self):
        text = text_of("x = turn u 0", "y = turn u 0")
        nests, places = plain_program(text)
        wide = (*nests[1][:2], True, nests[1][3])
        self.assert_turned(text, [("wide", 1)], ((nests[0], wide), places))
        self.assert_turned(text, [("wide", 1), ("wide", 1)], (nests, places))

    def test_wide(self):
        self.assert_why("wide", text_of("x = turn s -"), ("wide", 0))
        text = text_of("r = run plus @0 @1 from 0 of a 1", "q = run plus @0 @1 from 0 of a 0")
        self.assert_why("wide", text, ("wide", 0), ("carry", "r"))
        self.assert_why("wide", text, ("wide", 0), ("carry", "r"), ("tile", 0, "i1", 2))
        self.assert_why("wide", text, ("wide", 0), ("carry", "r"), ("carry", "q"), ("together", 0))
        self.assertTrue(turned_all(text, [("carry", "r"), ("tile", 0, "i0", 2), ("wide", 0), ("wide", 0)]))
        self.assertTrue(turned_all(text, [("carry", "q"), ("wide", 1)])[0][1][2])


class Share(Case):
    TEXT = text_of("x = map plus @0 1 of u", "y = map plus @0 2 of x", "z = map plus @0 3 of y", "w = count 0 of m")

    def test_done(self):
        nests, _ = plain_program(self.TEXT)
        self.assert_turned(self.TEXT, [("share", "y", "x")], (nests, own(*"xyzw", y="x")))
        self.assert_turned(self.TEXT, [("share", "x", "y")], (nests, own(*"xyzw", x="y")))
        self.assert_turned(self.TEXT, [("share", "y", "x"), ("share", "z", "y")], (nests, own(*"xyzw", y="x", z="x")))
        self.assert_turned(self.TEXT, [("share", "x", "x"), ("share", "w", "w")], (nests, own(*"xyzw")))
        self.assert_turned(self.TEXT, [("share", "z", "x")], (nests, own(*"xyzw", z="x")))

    def test_share(self):
        self.assert_why("share", self.TEXT, ("share", "w", "x"))
        self.assert_why("share", self.TEXT, ("share", "x", "w"))
        self.assert_why("share", self.TEXT, ("share", "y", "x"), ("together", 0))
        text = text_of("x = map plus @0 1 of u", "y = map plus @0 2 of x", "z = map plus @0 @1 of x y")
        self.assert_why("share", text, ("share", "y", "x"))
        self.assert_why("share", text, ("share", "x", "y"))
        self.assertTrue(turned_all(text, [("share", "z", "x")]))
        text = text_of("x = map plus @0 1 of u", "r = run plus @0 @1 from 0 of x 0")
        self.assert_why("share", text, ("share", "r", "x"))
        self.assertEqual(turned_all(text, [("carry", "r"), ("share", "r", "x")])[1], own("x", "r", r="x"))


def parts_in(thing):
    return 1 + sum(parts_in(part) for part in thing) if isinstance(thing, tuple) else 0


class Many(Case):
    EXPRESSION = "plus plus plus @0 @0 plus @0 @0 plus plus @0 @0 plus @0 @0"

    def too_many(self, text, turns, program=None):
        told = turned_all(text, turns[:-1]) if program is None else program
        with self.assertRaises(TooMany) as caught:
            turned(text, told, turns[-1])
        if program is None:
            with self.assertRaises(TooMany) as other:
                turned_all(text, turns)
            self.assertEqual(other.exception.many, caught.exception.many)
        return caught.exception.many

    def doubled(self, times, leaf=("read", "u", (I,))):
        for _ in range(times):
            leaf = ("plus", leaf, leaf)
        return leaf

    def test_just_as_many_as_may_be(self):
        # Of 243 reads, each of 5 parts, 166 have 4 nots more, and 121 ifs hold them together: 2000.
        leaves = [("arg", 0)] * 166 + [("arg", 1)] * 77
        while len(leaves) > 1:
            leaves = [("if", *leaves[at:at + 3]) for at in range(0, len(leaves), 3)]
        inputs, rows = text_of("x = map not not not not @0 of t")
        for expression, many in ((leaves[0], 2000), (("not", leaves[0]), 2001)):
            text = (inputs, (*rows, ("y", ("map", expression, ("x", "t")))))
            if many > 2000:
                self.assertEqual(self.too_many(text, [("fuse", "x")]), many)
                self.assertEqual(self.too_many(text, [("wide", 1), ("fuse", "x")]), many)
            else:
                told = turned_all(text, [("fuse", "x"), ("wide", 0)])
                self.assertEqual(parts_in(told[0][0][3][0][1]), many)

    def test_how_many(self):
        names = "bcdefghijlmo"
        rows = [f"{name} = map {self.EXPRESSION} of {source}" for name, source in zip(names, "u" + names)]
        text = text_of(*rows)
        self.assertEqual(self.too_many(text, [("fuse", "b"), ("fuse", "c")]), parts_in(self.doubled(9)))
        # One by one each is too many: not so many as all together.
        self.assertEqual(self.too_many(text, [("fuse", "b"), ("fuse", "d"), ("fuse", "c")]), 6 * 2 ** 12 - 1)

    def test_of_the_first_such_make(self):
        rows = [f"x = map {self.EXPRESSION} of u", f"y = map {self.EXPRESSION} of x", f"z = map plus 1 {self.EXPRESSION} of y", f"w = map {self.EXPRESSION} of y"]
        text = text_of(*rows)
        self.assertEqual(self.too_many(text, [("fuse", "x"), ("fuse", "y")]), parts_in(("plus", ("number", 1, 1), self.doubled(9))))
        text = text_of(*rows[:2], rows[3], rows[2])
        self.assertEqual(self.too_many(text, [("fuse", "x"), ("fuse", "y")]), parts_in(self.doubled(9)))

    def great(self, deep=6):
        """A map's deed, its expression an if of three ifs and so on, of 729 reads."""
        def ifs(left):
            return "@0" if left == 0 else " ".join(["if", *[ifs(left - 1)] * 3])
        return f"map {ifs(deep)} of t"

    def test_of_what_is_great_from_the_begin(self):
        text = text_of(f"x = {self.great()}", "y = turn u 0", "z = turn a 0,1")
        program = plain_program(text)
        self.assertTrue(lets(text, program))
        many = parts_in(program[0][0][3][0][1])
        self.assertGreater(many, 2000)
        for turn in (("fuse", "y"), ("exchange", 2, (("whole", "i1"), ("whole", "i0"))), ("tile", 1, "i0", 2), ("split", 1, "i0", NOUGHT), ("together", 0), ("wide", 1), ("share", "x", "y")):
            self.assertEqual(self.too_many(text, [turn]), many)
        self.assertEqual(len(turned(text, program, ("fuse", "x"))[0]), 2)

    def test_behind_the_whys_told_with_each_turn(self):
        great = f"x = {self.great()}"
        for why, turn, *rows in (
            ("turn", ("fuse", "q")), ("safe", ("fuse", "y"), "y = pick u k"), ("pick", ("fuse", "y"), "y = turn u 0", "z = pick y k"), ("order", ("tile", 0, "i0", 2)), ("split", ("split", 0, "i0", ONE)), ("ranges", ("together", 0), "y = turn a 0,1"),
            ("run", ("carry", "x")), ("wide", ("wide", 1), "y = turn s -"), ("turn", ("wide", 7)), ("turn", None),
        ):
            text = text_of(great, *rows)
            program = plain_program(text)
            if why == "order":
                program = ((((program[0][0][0], (("outer", "i0", 2), ("inner", "i0", 2)), *program[0][0][2:])),), program[1])
            with self.assertRaises(NoTurn) as caught:
                turned(text, program, turn)
            self.assertEqual(caught.exception.why, why)

    def program(self, text, *turns):
        """What turns make of a text's program, though a term in it be great: its last row is great and stands aside."""
        nests, places = turned_all((text[0], text[1][:-1]), turns)
        last, place = plain_program(text)[0][-1], text[1][-1][0]
        told = ((*nests, last), tuple(sorted((*places, (place, place)))))
        self.assertTrue(lets(text, told))
        return told

    def test_behind_carried_and_shared(self):
        great = f"x = {self.great()}"
        text = text_of("r = run plus @0 @1 from 0 of u 0", "y = turn u 0", great)
        for why, turn, *ahead in (("carried", ("fuse", "r"), ("carry", "r")), ("run", ("carry", "r"), ("carry", "r")), ("carried", ("split", 0, "i0", NOUGHT), ("carry", "r")), ("shared", ("fuse", "y"), ("share", "r", "y"))):
            with self.assertRaises(NoTurn) as caught:
                turned(text, self.program(text, *ahead), turn)
            self.assertEqual(caught.exception.why, why)

    def test_behind_split_and_shared_by_a_place_s_name(self):
        text = text_of("c = count 0 of 3+n", "x = turn u 0", "y = turn u 0", f"v = {self.great()}")
        for why, turn in (("split", ("split", 1, "i0", NOUGHT)), ("split", ("split", 0, "i0", (2, ())))):
            with self.assertRaises(NoTurn) as caught:
                turned(text, self.program(text, ("split", 0, "i0", ONE)), turn)
            self.assertEqual(caught.exception.why, why)
        nests, _ = self.program(text)
        for name in ("x", "y"):
            with self.assertRaises(NoTurn) as caught:
                turned(text, (nests, own("c", "v", "x", "y", x="y", y="x")), ("fuse", name))
            self.assertEqual(caught.exception.why, "shared")

    def test_ahead_of_wide_reads_share_and_what_the_looker_would_not_let(self):
        great = f"x = {self.great()}"
        text = text_of("r = run plus @0 @1 from 0 of u 0", "y = run plus @0 @1 from 0 of r 0", "q = run plus @0 @1 from 0 of a 0", "z = turn s -", great)
        back = (("whole", "i1"), ("whole", "i0"))
        for turn, *ahead in (
            (("wide", 0), ("carry", "r")), (("together", 0),), (("share", "r", "q"),), (("share", "y", "r"),),
            (("exchange", 2, back), ("carry", "q"), ("wide", 2)), (("tile", 2, "i0", 2), ("carry", "q"), ("wide", 2)), (("split", 2, "i1", NOUGHT), ("split", 2, "i0", NOUGHT)), (("carry", "q"), ("split", 2, "i0", NOUGHT)),
        ):
            program = self.program(text, *ahead)
            self.assertEqual(self.too_many(text, [turn], program), parts_in(program[0][-1][3][0][1]))
            # Without what is great the turn has its own why.
            with self.assertRaises(NoTurn):
                turned_all((text[0], text[1][:-1]), [*ahead, turn])
        text = text_of("x = map plus @0 1 of u", "y = map plus @0 2 of x", "z = map plus @0 3 of u", "w = map plus @0 4 of y", f"v = {self.great()}")
        self.assertGreater(self.too_many(text, [("fuse", "y")], self.program(text, ("share", "z", "x"))), 2000)


class Refused(Case):
    TEXT = text_of("x = map plus @0 1 of u", "y = map plus @0 2 of x")

    def test_no_text(self):
        for ask in (lambda thing: turned(thing, ((), ()), ("wide", 0)), lambda thing: turned(thing, None, None), lambda thing: turned_all(thing, []), lambda thing: is_joined(thing, ([], ((), ()))), lambda thing: is_joined(thing=None, text=thing)):
            assert_no_text_first(self, ask)

    def test_no_fit(self):
        text = text_of("x = turn u 0", "y = part u 0 1 n")
        for ask in (lambda: turned(text, ((), ()), ("wide", 0)), lambda: turned(text, None, None), lambda: turned_all(text, []), lambda: turned_all(text, [None]), lambda: is_joined(text, ([], ((), ()))), lambda: is_joined(text, None)):
            with self.assertRaises(NoFit) as caught:
                ask()
            self.assertEqual(caught.exception.row, 1)

    def test_no_program_ahead_of_the_turn(self):
        nests, places = plain_program(self.TEXT)
        for thing in many_things() + [(nests[::-1], places), (nests[1:], places), (nests, places[1:]), [nests, places], (list(nests), places)]:
            for turn in (("wide", 0), ("together", 0), None, ("what",), ("fuse", "q")):
                with self.assertRaises(NoProgram, msg=repr(thing)[:80]):
                    turned(self.TEXT, thing, turn)
        with self.assertRaises(NoProgram):
            turned(text_of("x = pick u k"), ((), ()), None)
        deep = ("read", "u", (I,))
        for _ in range(1000):
            deep = ("plus", deep, deep)
        with self.assertRaises(NoProgram):
            turned(self.TEXT, ((nests[0], (*nests[1][:3], (("y", deep),))), places), ("wide", 0))

    def test_by_names(self):
        program = plain_program(self.TEXT)
        told = turned(turn=("together", 0), text=self.TEXT, program=program)
        self.assertEqual(turned_all(turns=(("together", 0),), text=self.TEXT), told)
        self.assertIs(is_joined(thing=([("together", 0)], told), text=self.TEXT), True)

    def test_a_program_written_by_hand_is_turned_too(self):
        nests, _ = plain_program(self.TEXT)
        program = (nests, own("x", "y", x="y", y="x"))
        self.assertEqual(turned(self.TEXT, program, ("together", 0))[1], program[1])


class Joined(Case):
    TEXT = text_of("x = map plus @0 1 of u", "y = map plus @0 2 of x", "r = run plus @0 @1 from 0 of y 0")

    def test_the_program_of_these_turns(self):
        turns = [("carry", "r"), ("together", 0), ("fuse", "x"), ("wide", 0), ("tile", 1, "i0", 2), ("share", "r", "y")]
        for many in range(len(turns) + 1):
            told = turned_all(self.TEXT, turns[:many])
            self.assertIs(is_joined(self.TEXT, (turns[:many], told)), True)
            self.assertIs(is_joined(self.TEXT, (tuple(turns[:many]), told)), True)
            for other in range(len(turns) + 1):
                self.assertIs(is_joined(self.TEXT, (turns[:other], told)), other == many)
        self.assertIs(is_joined(((), ()), ([], ((), ()))), True)

    def test_other_turns_to_the_same_program(self):
        self.assertIs(is_joined(self.TEXT, ([("wide", 0), ("wide", 0), ("share", "x", "x")], plain_program(self.TEXT))), True)

    def test_turns_that_can_not_be_done(self):
        told = plain_program(self.TEXT)
        for turns in ([("fuse", "q")], [("wide", 0), None], [("wide", 9)], ["wide"], [[]], [("together", 1)], many_things(), "fuse"):
            self.assertIs(is_joined(self.TEXT, (turns, told)), False)
        text = text_of(f"x = {Many().great()}", "y = turn u 0")
        self.assertIs(is_joined(text, ([], plain_program(text))), True)
        self.assertIs(is_joined(text, ([("wide", 1)], plain_program(text))), False)

    def test_things_that_are_none(self):
        told = plain_program(self.TEXT)
        for thing in many_things() + [(), ([],), ([], told, told), [[], told], ({}, told), (None, told), (set(), told), ("", told), (0, told), ([], list(told)), ([], (list(told[0]), told[1])), ([], None), told, (told, [])]:
            self.assertIs(is_joined(self.TEXT, thing), False, repr(thing)[:80])

    def test_truths_are_no_numbers(self):
        text = text_of("x = map plus @0 1 of u")
        told = ((((("i0", NOUGHT, N),), WAY, False, (("x", ("plus", ("read", "u", (I,)), ("number", 1, True))),)),), own("x"))
        self.assertEqual(told, plain_program(text))
        self.assertIs(is_joined(text, ([], told)), False)

    def test_programs_that_are_none(self):
        nests, places = plain_program(self.TEXT)
        for program in ((nests[::-1], places), (nests[:2], places), (nests, ()), (nests, own(*"xyr", y="x")), ((), ())):
            self.assertIs(is_joined(self.TEXT, ([], program)), False)
        deep = ("read", "u", (I,))
        for _ in range(1000):
            deep = ("plus", deep, deep)
        self.assertIs(is_joined(self.TEXT, ([], (((*nests[0][:3], (("x", deep),)), *nests[1:]), places))), False)


class Chance(Case):
    def test_turns_one_by_one_and_all_together(self):
        for seed in range(150):
            chance = Random(seed)
            text, _ = any_fitting(chance, deep=2)
            turns, told = any_turned(chance, text, chance.randint(0, 8))
            self.assertEqual(turned_all(text, turns), told)
            self.assertEqual(turned_all(text, tuple(turns)), told)
            self.assertIs(is_joined(text, (turns, told)), True)
            kept = repr((text, turns, told))
            for _ in range(4):
                turn = any_turn(chance, told)
                try:
                    other = turned(text, told, turn)
                except NoTurn as error:
                    self.assertIn(error.why, ("turn", "safe", "pick", "carried", "shared", "order", "split", "ranges", "reads", "run", "wide", "share"))
                else:
                    self.assertTrue(lets(text, other))
                    self.assertIs(is_joined(text, ([*turns, turn], other)), True)
            self.assertEqual(repr((text, turns, told)), kept)


if __name__ == "__main__":
    unittest.main()
