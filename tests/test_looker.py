import unittest
from random import Random

from everycell.errors import NoFit
from everycell.looker import lets
from everycell.programs import plain_program
from everycell.rules import rule_term
from everycell.signs import read
from everycell.texts import letters_of
from everycell.turns import turned_all
from tests.things import any_fitting, any_inputs, any_turned, assert_no_text_first, gone_through, many_things, outcomes

NOUGHT, ONE, N, M = (0, ()), (1, ()), (0, (("n", 1),)), (0, (("m", 1),))
I, J, V = ((0, ((name, 1),)) for name in ("i0", "i1", "v0"))
ARG, OTHER = ("arg", 0), ("arg", 1)
INPUTS = "input a number n m\ninput u number n\ninput k number n\ninput s number"
PLUS = ("plus", ARG, OTHER)


def text_of(*rows, inputs=INPUTS):
    return read("\n".join([inputs, *rows]))


def nest(text, *names, ranges=None, order=None, wide=False, **terms):
    """A nest that makes names by their rules, or by the terms told, from 0 to n in order, where nothing else is told."""
    ranges = (("i0", NOUGHT, N),) if ranges is None else ranges
    order = tuple(("whole", var) for var, _, _ in ranges) if order is None else order
    cell = tuple((0, ((var, 1),)) for var, _, _ in ranges)
    return (ranges, order, wide, tuple((name, terms.get(name) or rule_term(text, name, cell)) for name in names))


def program(*nests, **places):
    """A program of nests, each name in its own place, where none is told."""
    made = sorted({name for _, _, _, makes in nests for name, _ in makes})
    return (nests, tuple((name, places.get(name, name)) for name in made))


def carried(source, expression=PLUS, begin=(0, 1), axis=0, cell=(I,)):
    return ("carry", axis, expression, begin, ("read", source, cell))


def piece(begin, end, *behind):
    return (("i0", begin, end), *behind)


def places_within(thing):
    """The paths to all that stands in nested tuples, and they themselves."""
    found = [()]
    if isinstance(thing, tuple):
        for at, part in enumerate(thing):
            found.extend((at, *path) for path in places_within(part))
    return found


def within(thing, path):
    for at in path:
        thing = thing[at]
    return thing


def exchanged(thing, path, other):
    if not path:
        return other
    return (*thing[:path[0]], exchanged(thing[path[0]], path[1:], other), *thing[path[0] + 1:])


class Case(unittest.TestCase):
    def assert_lets(self, text, thing, answer=True):
        self.assertIs(lets(text, thing), answer)

    def assert_not(self, text, thing):
        self.assert_lets(text, thing, False)


class Refused(Case):
    def test_no_text(self):
        assert_no_text_first(self, lambda thing: lets(thing, ((), ())))
        assert_no_text_first(self, lambda thing: lets(thing=None, text=thing))

    def test_no_fit_of_anything(self):
        text = text_of("x = turn u 0", "y = part u 0 1 n")
        for thing in many_things() + [((), ())]:
            with self.assertRaises(NoFit) as caught:
                lets(text, thing)
            self.assertEqual(caught.exception.row, 1)

    def test_by_names(self):
        self.assertIs(lets(thing=((), ()), text=((), ())), True)


class Form(Case):
    TEXT = text_of("x = map plus @0 1 of u", "r = run plus @0 @1 from 1/2 of x 0", "y = spread r 1 2", "q = put u k u by plus @0 @1", inputs=INPUTS.replace("number n\n", "number 3+n\n"))
    PROGRAM = turned_all(TEXT, [("carry", "r"), ("tile", 2, "i1", 3), ("split", 2, "i0", (2, ())), ("share", "q", "r"), ("wide", 0)])

    def test_things_of_every_kind(self):
        for text in (self.TEXT, ((), ()), text_of("x = turn u 0")):
            for thing in many_things() + [((), (), ()), (((),), ()), ((), ((),)), (None, ()), ((), None), text, [(), ()], ([], []), (([],), ())]:
                if thing != ((), ()):
                    self.assert_not(text, thing)

    def test_each_part_exchanged_for_things_of_every_kind(self):
        self.assert_lets(self.TEXT, self.PROGRAM)
        for path in places_within(self.PROGRAM):
            part = within(self.PROGRAM, path)
            others = many_things() + [float(part)] if type(part) is int else many_things()
            for thing in others + [(), (part,), [part], {0: part}, str(part), part * 2 if isinstance(part, (tuple, str)) else None]:
                is_wide = isinstance(part, bool) and isinstance(thing, bool)
                if not is_wide and (type(thing) is not type(part) or thing != part):
                    self.assertIs(lets(self.TEXT, exchanged(self.PROGRAM, path, thing)), False, (path, repr(thing)[:60]))

    def test_lists_in_the_place_of_tuples(self):
        for path in places_within(self.PROGRAM):
            part = within(self.PROGRAM, path)
            if isinstance(part, tuple):
                self.assert_not(self.TEXT, exchanged(self.PROGRAM, path, list(part)))
                if part:
                    self.assert_not(self.TEXT, exchanged(self.PROGRAM, path, part[:-1]))
                    self.assert_not(self.TEXT, exchanged(self.PROGRAM, path, (*part, part[-1])))

    def test_truths_in_the_place_of_numbers(self):
        for path in places_within(self.PROGRAM):
            part = within(self.PROGRAM, path)
            if type(part) is int and part in (0, 1):
                self.assert_not(self.TEXT, exchanged(self.PROGRAM, path, bool(part)))
            if isinstance(part, bool):
                self.assert_not(self.TEXT, exchanged(self.PROGRAM, path, int(part)))

    def test_vars(self):
        text = text_of("x = turn a 0,1")
        good = nest(text, "x", ranges=(("i0", NOUGHT, N), ("i1", NOUGHT, M)))
        self.assert_lets(text, program(good))
        for names in (("i1", "i0"), ("i0", "i0"), ("i0", "i2"), ("i1", "i2"), ("i0", "v1"), ("j0", "j1"), ("i00", "i1"), ("0", "1"), ("I0", "I1")):
            ranges = ((names[0], NOUGHT, N), (names[1], NOUGHT, M))
            self.assert_not(text, program((ranges, good[1], False, good[3])))
            self.assert_not(text, program((ranges, tuple(("whole", var) for var in names), False, good[3])))
            if set(names) != {"i0", "i1"}:
                self.assert_not(text, program((good[0], tuple(("whole", var) for var in names), False, good[3])))

    def test_items(self):
        text = text_of("x = turn a 0,1")
        ranges = (("i0", NOUGHT, N), ("i1", NOUGHT, M))
        first, second = ("whole", "i0"), ("whole", "i1")
        outer, inner = ("outer", "i0", 2), ("inner", "i0", 2)
        for order in ((first, second), (second, first), (outer, inner, second), (outer, second, inner), (second, outer, inner), (outer, ("outer", "i1", 8), ("inner", "i1", 8), inner), (("outer", "i0", 1), ("inner", "i0", 1), second)):
            self.assert_lets(text, program(nest(text, "x", ranges=ranges, order=order)))
        for order in (
            (), (first,), (second,), (first, first), (first, second, second), (first, second, ("whole", "i2")), (inner, outer, second), (outer, second), (inner, second), (outer, inner), (outer, outer, inner, second), (outer, inner, inner, second),
            (outer, inner, first, second), (outer, first, second), (first, second, inner), (outer, ("inner", "i0", 3), second), (outer, ("inner", "i1", 2), second), (("outer", "i0", 0), ("inner", "i0", 0), second), (("outer", "i0", 9), ("inner", "i0", 9), second),
            (("outer", "i0"), ("inner", "i0"), second), (("whole", "i0", 1), second), (("outer", "i0", True), ("inner", "i0", True), second), (("outer", "i0", -1), ("inner", "i0", -1), second), ("whole", second), (("half", "i0"), second),
            (("whole",), second), (("whole", ["i0"]), second), (("outer", "i0", (2,)), ("inner", "i0", (2,)), second), (["whole", "i0"], second), (("outer", "i0", "2"), ("inner", "i0", "2"), second), (inner, outer, inner, second), (outer, inner, outer, second),
        ):
            self.assert_not(text, program(nest(text, "x", ranges=ranges, order=order)))
        self.assert_not(text, program(nest(text, "x", ranges=ranges, order=[first, second])))

    def test_wide_is_a_truth(self):
        text = text_of("x = turn u 0")
        for wide in (True, False):
            self.assert_lets(text, program(nest(text, "x", wide=wide)))
        for wide in (0, 1, None, "", "True", (), []):
            self.assert_not(text, program(nest(text, "x", wide=wide)))

    def test_a_nest_has_a_make(self):
        text = text_of("x = turn u 0")
        self.assert_not(text, program(nest(text, "x"), nest(text)))
        self.assert_not(text, program(nest(text), nest(text, "x")))
        self.assert_not(((), ()), program(((), (), False, ())))

    def test_makes(self):
        text = text_of("x = turn u 0", "y = turn u 0")
        good = nest(text, "x", "y")
        self.assert_lets(text, program(good))
        term = good[3][0][1]
        for thing in many_things() + [(), ("x",), ("x", term, term), ["x", term], ("X", term), ("x y", term), (("x",), term), (term, "x"), ("", term)]:
            for makes in ((thing,), (thing, good[3][1]), (good[3][0], thing), (*good[3], thing), (thing, *good[3])):
                self.assert_not(text, (((*good[:3], makes),), (("x", "x"), ("y", "y"))))
        for makes in (list(good[3]), {"x": term}, good[3][0], "xy", None, ()):
            self.assert_not(text, (((*good[:3], makes),), (("x", "x"), ("y", "y"))))

    def test_places(self):
        text = text_of("x = turn u 0", "y = turn u 0")
        nests, _ = program(nest(text, "x"), nest(text, "y"))
        for places in ((("x", "x"), ("y", "y")), (("x", "y"), ("y", "y")), (("x", "x"), ("y", "x")), (("x", "y"), ("y", "x"))):
            self.assert_lets(text, (nests, places))
        for places in (
            (), (("x", "x"),), (("y", "y"),), (("y", "y"), ("x", "x")), (("x", "x"), ("x", "x"), ("y", "y")), (("x", "x"), ("x", "y"), ("y", "y")), (("x", "x"), ("y", "y"), ("z", "z")), (("a", "a"), ("x", "x"), ("y", "y")),
            (("x", "u"), ("y", "y")), (("x", "z"), ("y", "y")), (("x", 0), ("y", "y")), (("x", "x", "x"), ("y", "y")), (("x",), ("y", "y")), (["x", "x"], ["y", "y"]), [("x", "x"), ("y", "y")], {"x": "x", "y": "y"}, ("xx", "yy"), (("x", ["x"]), ("y", "y")),
        ):
            self.assert_not(text, (nests, places))


class Names(Case):
    def test_only_rows_are_made(self):
        text = text_of("x = turn u 0")
        for name in ("u", "q", "k", "n"):
            term = ("read", "u", (I,))
            self.assert_not(text, program(nest(text, "x"), nest(text, name, **{name: term})))
            self.assert_not(text, program(nest(text, "x", name, **{name: term})))

    def test_what_is_not_made_is_safe(self):
        for deed, is_safe in (
            ("map plus @0 1 of u", True), ("map over @0 2 of u", True), ("map over 2 @0 of u", False), ("pick u k", False), ("put u k u", False), ("put u k u by plus @0 @1", True),
            ("run over @0 @1 from 1 of u 0", False), ("join u k 0", True), ("fold over @1 0 from 1 of a 1", False),
        ):
            text = text_of(f"x = {deed}")
            self.assert_lets(text, ((), ()), is_safe)
            # Whether anything reads it or not.
            text = text_of(f"x = {deed}", "y = turn u 0")
            self.assert_lets(text, program(nest(text, "y")), is_safe)

    def test_what_is_not_made_is_not_picked_from(self):
        text = text_of("x = map plus @0 1 of u", "y = pick x k")
        self.assert_lets(text, plain_program(text))
        self.assert_not(text, program(nest(text, "y")))
        self.assert_not(text, program(nest(text, "y", y=("pick", "x", ("read", "k", (I,)), N, ()))))
        self.assert_not(text, program(nest(text, "y", y=("pick", "u", ("read", "k", (I,)), N, ()))))
        # Its numbers may be.
        text = text_of("x = map plus @0 1 of k", "y = pick u x")
        self.assert_lets(text, program(nest(text, "y", y=("pick", "u", ("plus", ("read", "k", (I,)), ("number", 1, 1)), N, ()))))

    def test_no_rows(self):
        for text in (((), ()), text_of()):
            self.assert_lets(text, ((), ()))
            self.assert_not(text, program(((), (), False, (("x", ("number", 1, 1)),))))


class Covered(Case):
    TEXT = text_of("x = map plus @0 1 of u")
    TWO = text_of("x = map plus @0 1 of a")

    def cut(self, *pieces, text=None):
        text = text or self.TEXT
        return program(*[nest(text, "x", ranges=ranges) for ranges in pieces])

    def test_cut_along_one_axis(self):
        first = (0, (("n", 1),))
        text = text_of("x = map plus @0 1 of w", inputs="input w number 3+n")
        for pieces in (
            (piece(NOUGHT, (3, (("n", 1),))),), (piece(NOUGHT, ONE), piece(ONE, (3, (("n", 1),)))), (piece(NOUGHT, first), piece(first, (3, (("n", 1),)))), (piece(NOUGHT, NOUGHT), piece(NOUGHT, (3, (("n", 1),)))),
            (piece(NOUGHT, (3, (("n", 1),))), piece((3, (("n", 1),)), (3, (("n", 1),)))), (piece(NOUGHT, ONE), piece(ONE, (2, ())), piece((2, ()), (2, (("n", 1),))), piece((2, (("n", 1),)), (3, (("n", 1),)))),
            (piece(NOUGHT, NOUGHT), piece(NOUGHT, NOUGHT), piece(NOUGHT, (3, (("n", 1),)))),
        ):
            self.assert_lets(text, self.cut(*pieces, text=text))

    def test_not_from_begin_to_end(self):
        for pieces in (
            (piece(ONE, N),), (piece(NOUGHT, (1, (("n", 1),))),), (piece(NOUGHT, M),), (piece(NOUGHT, NOUGHT),), (piece(N, N),), (piece(NOUGHT, (-1, (("n", 1),))),), (piece(NOUGHT, (0, (("n", 2),))),),
            (piece(NOUGHT, (0, (("z", 1),))),), (piece((-1, ()), N),),
        ):
            self.assert_not(self.TEXT, self.cut(*pieces))

    def test_with_a_gap_or_an_overlap_or_out_of_order(self):
        text = text_of("x = map plus @0 1 of w", inputs="input w number 3+n")
        end, two = (3, (("n", 1),)), (2, ())
        self.assert_lets(text, self.cut(piece(NOUGHT, ONE), piece(ONE, two), piece(two, end), text=text))
        for pieces in (
            (piece(NOUGHT, ONE), piece(two, end)), (piece(NOUGHT, two), piece(ONE, end)), (piece(ONE, end), piece(NOUGHT, ONE)), (piece(NOUGHT, ONE), piece(two, end), piece(ONE, two)), (piece(NOUGHT, ONE), piece(ONE, two)),
            (piece(ONE, two), piece(two, end)), (piece(NOUGHT, ONE), piece(ONE, two), piece(ONE, two), piece(two, end)), (piece(NOUGHT, end), piece(NOUGHT, end)), (piece(NOUGHT, two), piece(two, ONE), piece(ONE, end)),
            (piece(NOUGHT, (5, (("n", 1),))), piece((5, (("n", 1),)), end)), (piece(NOUGHT, (-1, ())), piece((-1, ()), end)), (piece(NOUGHT, M), piece(M, end)), (piece(NOUGHT, (0, (("n", 2),))), piece((0, (("n", 2),)), end)),
            (piece(NOUGHT, (3, (("n", -1),))), piece((3, (("n", -1),)), end)), (piece(NOUGHT, (0, (("z", 1),))), piece((0, (("z", 1),)), end)),
        ):
            self.assert_not(text, self.cut(*pieces, text=text))

    def test_along_two_axes(self):
        across = ("i1", NOUGHT, M)
        first, second = ("i1", NOUGHT, NOUGHT), ("i1", NOUGHT, M)
        self.assert_lets(self.TWO, self.cut(piece(NOUGHT, NOUGHT, across), piece(NOUGHT, N, across), text=self.TWO))
        self.assert_lets(self.TWO, self.cut(piece(NOUGHT, N, first), piece(NOUGHT, N, second), text=self.TWO))
        for pieces in (
            (piece(NOUGHT, NOUGHT, first), piece(NOUGHT, N, second)), (piece(NOUGHT, NOUGHT, across), piece(NOUGHT, N, first), piece(NOUGHT, N, second)), (piece(NOUGHT, N, first), piece(NOUGHT, NOUGHT, second), piece(NOUGHT, N, second)),
            (piece(NOUGHT, N, ("i1", NOUGHT, ONE)), piece(NOUGHT, N, ("i1", ONE, M))), (piece(NOUGHT, N),), (piece(NOUGHT, N, across, ("i2", NOUGHT, ONE)),), (piece(NOUGHT, M, ("i1", NOUGHT, N)),),
        ):
            self.assert_not(self.TWO, self.cut(*pieces, text=self.TWO))

    def test_of_as_many_axes_as_the_name_has(self):
        make = (("x", rule_term(self.TWO, "x", (I, J))),)
        for ranges in ((), piece(NOUGHT, N), piece(NOUGHT, N, ("i1", NOUGHT, M), ("i2", NOUGHT, ONE)), piece(NOUGHT, N, ("i1", NOUGHT, M), ("i2", NOUGHT, NOUGHT))):
            self.assert_not(self.TWO, program((*nest(self.TWO, "x", ranges=ranges)[:3], make)))
        text = text_of("x = turn u 0", "y = map plus @0 1 of a")
        down, across = piece(NOUGHT, N), piece(NOUGHT, N, ("i1", NOUGHT, M))
        self.assert_lets(text, program(nest(text, "x"), nest(text, "y", ranges=across)))
        for ranges in (down, across):
            own = (("x", rule_term(text, "x", (I,))), ("y", rule_term(text, "y", (I, J))))
            self.assert_not(text, program((*nest(text, "x", ranges=ranges)[:3], own)))

    def test_all_of_the_whole(self):
        """Of several, in one nest too, not all are the whole."""
        self.assert_not(self.TEXT, program(nest(self.TEXT, "x"), nest(self.TEXT, "x")))
        self.assert_not(self.TEXT, program(nest(self.TEXT, "x", "x")))
        text = text_of("x = spread s 0 0", "y = turn s -")
        whole = nest(text, "x", ranges=piece(NOUGHT, NOUGHT))
        scalar = nest(text, "y", ranges=())
        self.assert_lets(text, program(whole, scalar))
        self.assert_not(text, program(whole, whole, scalar))
        self.assert_not(text, program(nest(text, "x", "x", ranges=piece(NOUGHT, NOUGHT)), scalar))
        self.assert_not(text, program(whole, scalar, scalar))
        self.assert_not(text, program(whole, nest(text, "y", "y", ranges=())))

    def test_carried_along_where_it_is_cut(self):
        text = text_of("r = run plus @0 @1 from 0 of a 0")
        down, across = ("i0", NOUGHT, N), ("i1", NOUGHT, M)
        term = carried("a", cell=(I, J))
        self.assert_lets(text, program(nest(text, "r", ranges=(down, across), r=term)))
        self.assert_lets(text, program(nest(text, "r", ranges=(down, ("i1", NOUGHT, NOUGHT)), r=term), nest(text, "r", ranges=(down, ("i1", NOUGHT, M)), r=term)))
        pieces = (piece(NOUGHT, NOUGHT, across), piece(NOUGHT, N, across))
        self.assert_lets(text, program(*[nest(text, "r", ranges=ranges) for ranges in pieces]))
        self.assert_not(text, program(*[nest(text, "r", ranges=ranges, r=term) for ranges in pieces]))
        self.assert_not(text, program(nest(text, "r", ranges=pieces[0], r=term), nest(text, "r", ranges=pieces[1])))
        self.assert_not(text, program(nest(text, "r", ranges=pieces[0]), nest(text, "r", ranges=pieces[1], r=term)))
        # Along another axis some may be carried and others not.
        self.assert_lets(text, program(nest(text, "r", ranges=(down, ("i1", NOUGHT, NOUGHT)), r=term), nest(text, "r", ranges=(down, ("i1", NOUGHT, M)))))


class Terms(Case):
    def test_the_rule_at_the_cell(self):
        text = text_of("x = map plus @0 1 of u")
        right = ("plus", ("read", "u", (I,)), ("number", 1, 1))
        self.assert_lets(text, program(nest(text, "x", x=right)))
        for term in (
            ("plus", ("number", 1, 1), ("read", "u", (I,))), ("plus", ("read", "k", (I,)), ("number", 1, 1)), ("plus", ("read", "u", ((1, (("i0", 1),)),)), ("number", 1, 1)), ("plus", ("read", "u", (I,)), ("number", 2, 1)),
            ("minus", ("read", "u", (I,)), ("number", -1, 1)), ("read", "u", (I,)), ("plus", ("read", "u", (I,)), ("number", 1, 1), ()), ("plus", ("read", "u", (I,)), ("number", True, 1)), ("plus", ("read", "u", I), ("number", 1, 1)),
            ("plus", ("read", "u", (I, I)), ("number", 1, 1)), ("plus", ("read", "x", (I,)), ("number", 1, 1)), carried("u"), (), ("plus",), "plus", None, 7, ["plus", ("read", "u", (I,)), ("number", 1, 1)],
        ):
            self.assert_not(text, program((*nest(text, "x")[:3], (("x", term),))))

    def test_rules_of_names_that_are_not_made_written_in(self):
        text = text_of("x = map plus @0 1 of u", "y = part x 0 0 n", "z = map @0 of y")
        right = ("plus", ("read", "u", (I,)), ("number", 1, 1))
        self.assert_lets(text, program(nest(text, "z", z=right)))
        self.assert_not(text, program(nest(text, "z", z=("read", "y", (I,)))))
        self.assert_not(text, program(nest(text, "z", z=("read", "x", (I,)))))
        self.assert_not(text, program(nest(text, "x"), nest(text, "z", z=right)))
        self.assert_lets(text, program(nest(text, "x"), nest(text, "z", z=("read", "x", (I,)))))
        text = text_of("x = map plus @0 1 of w", "y = part x 0 2 0", "z = join y x 0", inputs="input w number 2+n")
        term = ("below", I, NOUGHT, *[("plus", ("read", "w", (at,)), ("number", 1, 1)) for at in ((2, (("i0", 1),)), I)])
        whole = piece(NOUGHT, (2, (("n", 1),)))
        self.assert_lets(text, program(nest(text, "z", ranges=whole, z=term)))
        self.assert_not(text, program(nest(text, "z", ranges=whole)))
        self.assert_not(text, program(nest(text, "y", ranges=piece(NOUGHT, NOUGHT)), nest(text, "z", ranges=whole, z=term)))
        half = ("below", I, NOUGHT, ("read", "y", (I,)), term[4])
        self.assert_not(text, program(nest(text, "z", ranges=whole, z=half)))
        own = ("plus", ("read", "w", ((2, (("i0", 1),)),)), ("number", 1, 1))
        self.assert_lets(text, program(nest(text, "y", ranges=piece(NOUGHT, NOUGHT), y=own), nest(text, "z", ranges=whole, z=half)))

    def test_folds_within_folds_have_vars_by_how_many_stand_around(self):
        text = text_of("x = fold plus @0 @1 from 0 of a 1", "y = fold plus @0 @1 from 0 of x 0")
        scalar = lambda term: program(((), (), False, (("y", term),)))
        inner = lambda var, outer: ("fold", var, M, PLUS, (0, 1), ("read", "a", ((0, ((outer, 1),)), (0, ((var, 1),)))))
        self.assert_lets(text, scalar(("fold", "v0", N, PLUS, (0, 1), inner("v1", "v0"))))
        self.assert_not(text, scalar(("fold", "v0", N, PLUS, (0, 1), inner("v2", "v0"))))
        self.assert_not(text, scalar(("fold", "v1", N, PLUS, (0, 1), inner("v0", "v1"))))
        self.assert_not(text, scalar(("fold", "v0", N, PLUS, (0, 1), inner("v0", "v0"))))

    def test_around_of_puts(self):
        text = text_of("f = run plus @0 @1 from 0 of u 0", "p = put f f f by plus @0 @1")
        fold = lambda var, at: ("fold", var, (1, ((at, 1),)), PLUS, (0, 1), ("read", "u", ((0, ((var, 1),)),)))
        term = ("put", "v0", N, fold("v1", "v0"), I, PLUS, fold("v0", "i0"), fold("v1", "v0"))
        self.assert_lets(text, program(nest(text, "p", p=term)))
        for path, part in (((3,), fold("v0", "v0")), ((6,), fold("v1", "i0")), ((7,), fold("v0", "v0"))):
            self.assert_not(text, program(nest(text, "p", p=exchanged(term, path, part))))

    def test_around_of_what_is_no_fold(self):
        """Only folds and puts count for vars, whatever else stands around."""
        fold = lambda at: ("fold", "v0", (1, at[1]) if at == I else (1, (("i0", 1), ("n", -1))), PLUS, (0, 1), ("read", "u", (V,)))
        first, behind = fold(I), fold(None)
        for deed, end, term in (
            ("map plus minus @0 @0 @0 of f", N, ("plus", ("minus", first, first), first)), ("join f f 0", (0, (("n", 2),)), ("below", I, N, first, behind)), ("pick u f", N, ("pick", "u", first, N, ())),
            ("map if less @0 @0 @0 @0 of f", N, ("if", ("less", first, first), first, first)),
        ):
            text = text_of("f = run plus @0 @1 from 0 of u 0", f"x = {deed}")
            self.assert_lets(text, program(nest(text, "x", ranges=piece(NOUGHT, end), x=term)))
            for path in places_within(term):
                if within(term, path) == "v0":
                    self.assert_not(text, program(nest(text, "x", ranges=piece(NOUGHT, end), x=exchanged(term, path, "v1"))))
        text = text_of("f = fold plus @0 @1 from 0 of a 0", "g = spread f 0 n", "r = run plus @0 @1 from 0 of g 0", inputs="input a number n m")
        inner = ("fold", "v0", N, PLUS, (0, 1), ("read", "a", (V, J)))
        ranges = (("i0", NOUGHT, N), ("i1", NOUGHT, M))
        self.assert_lets(text, program(nest(text, "r", ranges=ranges, r=("carry", 0, PLUS, (0, 1), inner))))

    def test_runs_carried(self):
        text = text_of("x = map plus @0 1 of u", "r = run plus @0 @1 from 1/2 of x 0")
        self.assert_lets(text, program(nest(text, "x"), nest(text, "r", r=carried("x", begin=(1, 2)))))
        written = ("carry", 0, PLUS, (1, 2), ("plus", ("read", "u", (I,)), ("number", 1, 1)))
        self.assert_lets(text, program(nest(text, "r", r=written)))
        self.assert_not(text, program(nest(text, "x"), nest(text, "r", r=written)))
        self.assert_not(text, program(nest(text, "r", r=carried("x", begin=(1, 2)))))
        for term in (carried("x"), carried("u", begin=(1, 2)), carried("x", begin=(1, 2), axis=1), carried("x", begin=(1, 2), expression=("plus", OTHER, ARG)), carried("x", begin=(1, 2), cell=(V,)), carried("x", begin=(1, 2))[:4], ("carry",)):
            self.assert_not(text, program(nest(text, "x"), nest(text, "r", r=term)))

    def test_folds_in_what_is_carried_are_not_within_one(self):
        text = text_of("f = fold plus @0 @1 from 0 of a 1", "r = run plus @0 @1 from 0 of f 0")
        inner = lambda var: ("fold", var, M, PLUS, (0, 1), ("read", "a", (I, (0, ((var, 1),)))))
        self.assert_lets(text, program(nest(text, "r", r=("carry", 0, PLUS, (0, 1), inner("v0")))))
        self.assert_not(text, program(nest(text, "r", r=("carry", 0, PLUS, (0, 1), inner("v1")))))

    def test_only_runs_are_carried(self):
        text = text_of("f = fold plus @0 @1 from 0 of a 0", "g = map @0 of f", inputs="input a number n m")
        term = carried("a", cell=(I,))
        self.assert_not(text, program(nest(text, "f", ranges=piece(NOUGHT, M), f=term), nest(text, "g", ranges=piece(NOUGHT, M))))
        text = text_of("c = count 0 of n")
        for term in (carried("c"), carried("u"), ("carry", 0), ("carry",)):
            self.assert_not(text, program(nest(text, "c", c=term)))

    def test_terms_with_one_tuple_in_very_many_places(self):
        text = text_of("x = turn u 0")
        deep = ("read", "u", (I,))
        for _ in range(3000):
            deep = ("plus", deep, deep)
        for thing in (deep, (deep,) * 1000, ("read", "u", (deep, deep)), ["plus", deep, deep], ((deep,) * 10 ** 5,) * 10 ** 5, ("read", "u", [deep]), ("carry", deep)):
            self.assert_not(text, program((*nest(text, "x")[:3], (("x", thing),))))
        lists = []
        for _ in range(3000):
            lists = [lists, lists]
        for thing in (lists, ("read", lists, (I,)), ("read", "u", lists), (lists, lists, lists)):
            self.assert_not(text, program((*nest(text, "x")[:3], (("x", thing),))))
        self.assert_not(text, (deep, deep))
        self.assert_not(text, (lists, lists))

    def doubled(self, times, leaf):
        for _ in range(times):
            leaf = ("plus", leaf, leaf)
        return leaf

    def test_what_is_due_may_be_greater_than_any_memory(self):
        expression = "plus plus plus @0 @0 plus @0 @0 plus plus @0 @0 plus @0 @0"
        names = "bcdefghijlmo"
        rows = [f"{name} = map {expression} of {source}" for name, source in zip(names, "u" + names)]
        for many in (1, 2, 4, 12):
            text = text_of(*rows[:many])
            last = names[many - 1]
            right = self.doubled(3 * many, ("read", "u", (I,)))
            if many < 5:
                self.assert_lets(text, program(nest(text, last, **{last: right})))
            for term in (("read", "u", (I,)), self.doubled(3 * many - 1, ("read", "u", (I,))), self.doubled(2, ("read", "u", (I,))), None, ("plus", right[1], ["plus"])):
                self.assert_not(text, program((*nest(text, last)[:3], ((last, term),))))
            if many < 5:
                self.assert_not(text, program((*nest(text, last)[:3], ((last, self.doubled(3 * many, ("read", "k", (I,)))),))))
                self.assert_not(text, program((*nest(text, last)[:3], ((last, self.doubled(3 * many + 1, ("read", "u", (I,)))),))))
            self.assert_lets(text, plain_program(text))

    def test_joins_of_joins_written_in(self):
        rows = [f"{name} = join {source} {source} 0" for name, source in zip("bcdef", "ubcde")]
        text = text_of(*rows)
        end = (0, (("n", 32),))

        def due(name, at):
            if name == "u":
                return ("read", "u", (at,))
            source = "ubcde"["bcdef".index(name)]
            length = (0, (("n", 2 ** "bcdef".index(name)),))
            behind = at[1][-1][1] - length[1][0][1] if at[1][-1][0] == "n" else -length[1][0][1]
            return ("below", at, length, due(source, at), due(source, (0, (("i0", 1), ("n", behind)))))
        self.assert_lets(text, program(nest(text, "f", ranges=piece(NOUGHT, end), f=due("f", I))))
        self.assert_not(text, program(nest(text, "f", ranges=piece(NOUGHT, end), f=due("e", I))))


class Ahead(Case):
    """Each name that a make reads or picks from is an input, or made ahead."""

    TEXT = text_of("x = map plus @0 1 of u", "y = map plus @0 @0 of x")

    def test_in_nests_ahead(self):
        self.assert_lets(self.TEXT, program(nest(self.TEXT, "x"), nest(self.TEXT, "y")))
        self.assert_not(self.TEXT, program(nest(self.TEXT, "y"), nest(self.TEXT, "x")))

    def test_all_its_makes(self):
        pieces = [nest(self.TEXT, "x", ranges=ranges) for ranges in (piece(NOUGHT, NOUGHT), piece(NOUGHT, N))]
        self.assert_lets(self.TEXT, program(*pieces, nest(self.TEXT, "y")))
        self.assert_not(self.TEXT, program(pieces[0], nest(self.TEXT, "y"), pieces[1]))
        self.assert_not(self.TEXT, program(nest(self.TEXT, "y"), *pieces))

    def test_ahead_in_the_same_nest_at_the_very_cell(self):
        self.assert_lets(self.TEXT, program(nest(self.TEXT, "x", "y")))
        self.assert_not(self.TEXT, program(nest(self.TEXT, "y", "x")))
        self.assert_lets(self.TEXT, program(nest(self.TEXT, "x", "y", wide=True)))
        pieces = [nest(self.TEXT, "x", "y", ranges=ranges) for ranges in (piece(NOUGHT, NOUGHT), piece(NOUGHT, N))]
        self.assert_lets(self.TEXT, program(*pieces))
        self.assert_not(self.TEXT, program(pieces[0], nest(self.TEXT, "y", "x", ranges=piece(NOUGHT, N))))
        self.assert_not(self.TEXT, program(nest(self.TEXT, "y", "x", ranges=piece(NOUGHT, NOUGHT)), pieces[1]))

    def test_ahead_in_the_same_nest_at_another_cell(self):
        for deed in ("part x 0 0 n", "spread x 0 1"):
            text = text_of("x = map plus @0 1 of u", f"y = {deed}")
            self.assert_lets(text, plain_program(text))
        text = text_of("x = map plus @0 1 of u", "y = part x 0 0 n")
        self.assert_lets(text, program(nest(text, "x", "y")))
        text = text_of("x = map plus @0 1 of a", "y = turn x 1,0", inputs="input a number n n")
        ranges = (("i0", NOUGHT, N), ("i1", NOUGHT, N))
        self.assert_lets(text, program(nest(text, "x", ranges=ranges), nest(text, "y", ranges=ranges)))
        self.assert_not(text, program(nest(text, "x", "y", ranges=ranges)))
        text = text_of("x = map plus @0 1 of u", "r = run plus @0 @1 from 0 of x 0")
        self.assert_not(text, program(nest(text, "x", "r")))
        self.assert_lets(text, program(nest(text, "x", "r", r=carried("x"))))

    def test_at_the_very_cell_and_at_another(self):
        text = text_of("x = map plus @0 1 of a", "y = turn x 1,0", "z = map plus @0 @1 of x y", inputs="input a number n n")
        ranges = (("i0", NOUGHT, N), ("i1", NOUGHT, N))
        both = ("plus", ("read", "x", (I, J)), ("read", "x", (J, I)))
        self.assert_lets(text, program(nest(text, "x", ranges=ranges), nest(text, "z", ranges=ranges, z=both)))
        self.assert_not(text, program(nest(text, "x", "z", ranges=ranges, z=both)))
        one = text_of("x = map plus @0 1 of a", "y = map plus 1 @0 of x", "z = map plus @0 @1 of x y", inputs="input a number n n")
        self.assert_lets(one, program(nest(one, "x", "y", "z", ranges=ranges)))
        self.assert_not(one, program(nest(one, "x", "z", "y", ranges=ranges)))

    def test_picked_from(self):
        text = text_of("x = map plus @0 1 of u", "y = pick x k")
        self.assert_lets(text, program(nest(text, "x"), nest(text, "y")))
        self.assert_not(text, program(nest(text, "y"), nest(text, "x")))
        self.assert_not(text, program(nest(text, "x", "y")))
        text = text_of("x = map plus @0 1 of u", "y = pick u x")
        self.assert_lets(text, program(nest(text, "x", "y")))
        text = text_of("x = map plus @0 1 of u", "y = pick x x")
        self.assert_not(text, program(nest(text, "x", "y")))

    def test_its_own_by_carrying(self):
        text = text_of("r = run plus @0 @1 from 0 of u 0", "q = run plus @0 @1 from 0 of r 0")
        self.assert_lets(text, program(nest(text, "r", "q", r=carried("u"), q=carried("r"))))
        self.assert_not(text, program(nest(text, "r", "q", r=carried("u"))))
        self.assert_not(text, program(nest(text, "q", "r", r=carried("u"), q=carried("r"))))


class Wide(Case):
    def test_a_wide_nest_has_an_item(self):
        text = text_of("x = turn s -")
        self.assert_lets(text, program(((), (), False, (("x", ("read", "s", ())),))))
        self.assert_not(text, program(((), (), True, (("x", ("read", "s", ())),))))

    def test_none_is_carried_along_its_last_item_s_var(self):
        ranges = (("i0", NOUGHT, N), ("i1", NOUGHT, M))
        for axis in (0, 1):
            text = text_of(f"r = run plus @0 @1 from 0 of a {axis}", "x = turn a 0,1")
            term = carried("a", axis=axis, cell=(I, J))
            own, other = f"i{axis}", f"i{1 - axis}"
            for order, is_let in (
                ((("whole", own), ("whole", other)), True), ((("whole", other), ("whole", own)), False), ((("outer", own, 2), ("inner", own, 2), ("whole", other)), True), ((("outer", own, 2), ("whole", other), ("inner", own, 2)), False),
                ((("outer", other, 2), ("whole", own), ("inner", other, 2)), True), ((("outer", other, 2), ("inner", other, 2), ("whole", own)), False),
            ):
                for names in (("r",), ("r", "x"), ("x", "r")):
                    others = [nest(text, "x", ranges=ranges)] if names == ("r",) else []
                    self.assert_lets(text, program(nest(text, *names, ranges=ranges, order=order, wide=True, r=term), *others), is_let)
                    self.assert_lets(text, program(nest(text, *names, ranges=ranges, order=order, r=term), *others))
                    self.assert_lets(text, program(nest(text, *names, ranges=ranges, order=order, wide=True), *others))


class Places(Case):
    def test_of_one_shape(self):
        text = text_of("x = map plus @0 1 of u", "y = turn k 0", "z = count 0 of m")
        nests = (nest(text, "x"), nest(text, "y"), nest(text, "z", ranges=piece(NOUGHT, M)))
        self.assert_lets(text, program(*nests))
        self.assert_lets(text, program(*nests, x="y"))
        self.assert_lets(text, program(*nests, y="x"))
        self.assert_lets(text, program(*nests, y="x", x="y"))
        for places in ({"z": "x"}, {"x": "z"}, {"x": "z", "z": "x"}, {"y": "z"}, {"x": "y", "y": "z"}):
            self.assert_not(text, program(*nests, **places))
        # Of one place no name needs to be the place's own.
        text = text_of("x = map plus @0 1 of u", "y = turn k 0", "w = turn u 0")
        nests = (nest(text, "x"), nest(text, "y"), nest(text, "w"))
        self.assert_lets(text, program(*nests, x="w", y="w", w="x"))

    TEXT = text_of("x = map plus @0 1 of u", "y = map plus @0 2 of x", "z = map plus @0 3 of y", "w = map plus @0 4 of x")

    def test_taken_over_behind_the_last_read(self):
        x, y, z, w = (nest(self.TEXT, name) for name in "xyzw")
        self.assert_lets(self.TEXT, program(x, y, w, z, z="x"))
        self.assert_not(self.TEXT, program(x, y, z, w, z="x"))
        self.assert_not(self.TEXT, program(x, y, z, w, x="z"))
        self.assert_lets(self.TEXT, program(x, y, w, z, x="z"))

    def test_in_order_of_the_text(self):
        text = text_of("x = map plus @0 1 of u", "y = map plus @0 2 of u")
        x, y = nest(text, "x"), nest(text, "y")
        self.assert_lets(text, program(x, y, y="x"))
        self.assert_lets(text, program(x, y, x="y"))
        self.assert_not(text, program(y, x, y="x"))
        self.assert_not(text, program(y, x, x="y"))
        self.assert_lets(text, program(y, x))

    def test_in_nests_ahead(self):
        text = text_of("x = map plus @0 1 of u", "y = map plus @0 2 of u")
        self.assert_lets(text, program(nest(text, "x", "y")))
        self.assert_not(text, program(nest(text, "x", "y"), y="x"))
        none, all_of_it = piece(NOUGHT, NOUGHT), piece(NOUGHT, N)
        x, y = ([nest(text, name, ranges=ranges) for ranges in (none, all_of_it)] for name in "xy")
        self.assert_lets(text, program(*x, *y, y="x"))
        self.assert_not(text, program(x[0], y[0], x[1], y[1], y="x"))
        self.assert_not(text, program(x[0], y[0], y[1], x[1], y="x"))
        self.assert_not(text, program(x[0], nest(text, "x", "y"), y="x"))

    def test_a_read_at_the_very_cell_in_that_make_or_ahead_of_it(self):
        x, y, z, w = (nest(self.TEXT, name) for name in "xyzw")
        self.assert_lets(self.TEXT, program(x, y, z, w, w="x"))
        # y takes x's place, reading it itself.
        text = text_of("x = map plus @0 1 of u", "y = map plus @0 2 of x", "z = map plus @0 3 of u", "w = map plus @0 4 of x")
        x, y = nest(text, "x"), nest(text, "y")
        third = nest(text, "z")
        self.assert_lets(text, program(x, nest(text, "w", "y"), third, y="x"))
        self.assert_not(text, program(x, nest(text, "y", "w"), third, y="x"))
        self.assert_lets(text, program(x, nest(text, "w"), y, third, y="x"))
        self.assert_not(text, program(x, y, nest(text, "w"), third, y="x"))
        # In a nest behind the first one that makes it only where that one makes it, too.
        none, all_of_it = piece(NOUGHT, NOUGHT), piece(NOUGHT, N)
        own = [nest(text, "w", "y", ranges=ranges) for ranges in (none, all_of_it)]
        self.assert_lets(text, program(x, *own, third, y="x"))
        self.assert_not(text, program(x, nest(text, "y", ranges=none), nest(text, "w"), nest(text, "y", ranges=all_of_it), third, y="x"))
        self.assert_lets(text, program(x, nest(text, "w"), nest(text, "y", ranges=none), nest(text, "y", ranges=all_of_it), third, y="x"))
        self.assert_not(text, program(x, nest(text, "w", "y", ranges=none), nest(text, "y", "w", ranges=all_of_it), third, y="x"))

    def test_a_read_at_another_cell(self):
        for deed, is_let in (("turn x 0,1", True), ("turn x 1,0", False)):
            text = text_of("x = map plus @0 1 of a", f"y = {deed}", inputs="input a number n n")
            ranges = (("i0", NOUGHT, N), ("i1", NOUGHT, N))
            x, y = nest(text, "x", ranges=ranges), nest(text, "y", ranges=ranges)
            self.assert_lets(text, program(x, y))
            self.assert_lets(text, program(x, y, y="x"), is_let)
        text = text_of("x = map plus @0 1 of u", "r = run plus @0 @1 from 0 of x 0")
        self.assert_not(text, program(nest(text, "x"), nest(text, "r"), r="x"))
        self.assert_lets(text, program(nest(text, "x"), nest(text, "r", r=carried("x")), r="x"))

    def test_a_pick(self):
        text = text_of("x = map plus @0 1 of u", "y = pick x k", "z = pick u x")
        x, y, z = (nest(text, name) for name in "xyz")
        self.assert_lets(text, program(x, y, z, z="x"))
        self.assert_not(text, program(x, y, z, y="x"))
        self.assert_not(text, program(x, z, y, z="x"))

    def test_of_three_names(self):
        text = text_of("x = map plus @0 1 of u", "y = map plus @0 2 of x", "z = map plus @0 3 of y")
        x, y, z = (nest(text, name) for name in "xyz")
        self.assert_lets(text, program(x, y, z, y="x", z="x"))
        self.assert_lets(text, program(x, y, z, x="z", y="z"))
        text = text_of("x = map plus @0 1 of u", "y = map plus @0 2 of x", "z = map plus @0 @1 of x y")
        x, y, z = (nest(text, name) for name in "xyz")
        self.assert_not(text, program(x, y, z, y="x", z="x"))
        self.assert_lets(text, program(x, y, z, z="x"))
        self.assert_lets(text, program(x, y, z, z="y"))


class Right(Case):
    def test_whatever_turns_tell_is_let_by_and_makes_the_plain_cells(self):
        for seed in range(250):
            chance = Random(seed)
            text, known = any_fitting(chance, deep=2)
            turns, told = any_turned(chance, text, chance.randint(0, 10))
            self.assertTrue(lets(text, told))
            self.assertTrue(lets(text, turned_all(text, turns)))
            self.assert_plain(chance, text, known, told)

    def assert_plain(self, chance, text, known, told):
        """Going through a program each cell of a made name is made once, behind all it asks for, and as the plain reader's."""
        lengths = {letter: chance.randint(0, 3) for letter in letters_of(text)}
        inputs = any_inputs(chance, text, lengths)
        due = outcomes(text, known, lengths, inputs)
        made, troubles = gone_through(text, told, lengths, inputs, chance.choice([1, 2, 3, 8]))
        self.assertEqual(troubles, [])
        self.assertEqual(set(made), {(name, cell) for name, _ in told[1] for cell in due[name]})
        for (name, cell), found in made.items():
            self.assertEqual(found[0] == "worth", due[name][cell][0] == "worth")
            if found[0] == "worth":
                self.assertEqual(found, due[name][cell])

    def test_whatever_is_let_by_makes_the_plain_cells(self):
        met = {True: 0, False: 0}
        for seed in range(250):
            chance = Random(seed)
            text, known = any_fitting(chance, rows=chance.randint(1, 6), deep=2)
            _, told = any_turned(chance, text, chance.randint(0, 6))
            for _ in range(8):
                other = changed(chance, told)
                is_let = lets(text, other)
                met[is_let] += 1
                if is_let:
                    self.assert_plain(chance, text, known, other)
        self.assertGreater(min(met.values()), 300)


def changed(chance, told):
    """A program with one thing changed by chance."""
    nests, places = list(told[0]), dict(told[1])
    if not nests:
        return told
    number, other = chance.randrange(len(nests)), chance.randrange(len(nests))
    ranges, order, wide, makes = nests[number]
    way = chance.randrange(8)
    if way == 0:
        nests.insert(other, nests.pop(number))
    elif way == 1:
        nests.insert(other, nests[number])
    elif way == 2:
        del nests[number]
    elif way == 3:
        nests[number] = (ranges, order, not wide, makes)
    elif way == 4:
        nests[number] = (ranges, tuple(chance.sample(order, len(order))), wide, makes)
    elif way == 5:
        nests[number] = (ranges, order, wide, tuple(chance.sample(makes, len(makes))))
    elif way == 6 and nests[number][0] == nests[other][0] and number != other:
        nests[min(number, other)] = (ranges, order, wide, (*nests[min(number, other)][3], *nests[max(number, other)][3]))
        del nests[max(number, other)]
    else:
        places[chance.choice(list(places))] = chance.choice(list(places))
    made = {name for _, _, _, makes in nests for name, _ in makes}
    return (tuple(nests), tuple(sorted((name, place if place in made else name) for name, place in places.items() if name in made)))


if __name__ == "__main__":
    unittest.main()
