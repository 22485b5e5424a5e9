import copy
import unittest
from random import Random

from everycell.errors import NoName
from everycell.rules import is_safe_name, rule_term, worth_at
from everycell.signs import read
from everycell.terms import constant
from everycell.texts import letters_of
from tests.things import GREAT, any_fitting, any_inputs, assert_no_text_first, many_things, outcomes

N, M = (0, (("n", 1),)), (0, (("m", 1),))
I, J, V, W, X = ((0, ((name, 1),)) for name in ("i0", "i1", "v0", "v1", "v2"))
ARG, OTHER = ("arg", 0), ("arg", 1)
INPUTS = "input a number n m\ninput b number m n\ninput t truth n m\ninput u number n\ninput w number 2+m\ninput s number"
NO_NAMES = many_things() + ["q", "aa", ("a",), ["a"]]


def text_of(*rows, inputs=INPUTS):
    return read("\n".join([inputs, *rows]))


def rule(deed, cell, **more):
    return rule_term(text_of(f"x = {deed}"), "x", cell, **more)


def one(number):
    return (number, ())


class Rules(unittest.TestCase):
    def test_of_map(self):
        cell = (I, J)
        self.assertEqual(rule("map plus @0 times -1/2 @1 of a a", cell), ("plus", ("read", "a", cell), ("times", ("number", -1, 2), ("read", "a", cell))))
        self.assertEqual(rule("map if @1 @0 @2 of a t a", cell), ("if", ("read", "t", cell), ("read", "a", cell), ("read", "a", cell)))
        self.assertEqual(rule("map yes of s", ()), ("truth", True))
        self.assertEqual(rule("map 3 of a", cell), ("number", 3, 1))
        self.assertEqual(rule("map @0 of s", ()), ("read", "s", ()))
        self.assertEqual(rule("map @1 of a t", (one(3), (1, (("i0", 2),)))), ("read", "t", (one(3), (1, (("i0", 2),)))))
        for word in ("plus", "minus", "times", "over", "least", "most", "less", "like"):
            self.assertEqual(rule(f"map {word} @0 @1 of u u", (I,)), (word, ("read", "u", (I,)), ("read", "u", (I,))))
        for word in ("and", "or", "like"):
            self.assertEqual(rule(f"map {word} not @0 @0 of t", cell), (word, ("not", ("read", "t", cell)), ("read", "t", cell)))

    def test_of_count(self):
        self.assertEqual(rule("count 0 of n m", (I, J)), ("count", I))
        self.assertEqual(rule("count 1 of n m 3", (I, one(2), J)), ("count", one(2)))
        self.assertEqual(rule("count 2 of n m 3", (I, J, (4, (("i0", 1), ("n", -2))))), ("count", (4, (("i0", 1), ("n", -2)))))

    def test_of_spread(self):
        self.assertEqual(rule("spread s 0 n", (I,)), ("read", "s", ()))
        self.assertEqual(rule("spread u 0 m", (I, J)), ("read", "u", (J,)))
        self.assertEqual(rule("spread u 1 m", (I, J)), ("read", "u", (I,)))
        self.assertEqual(rule("spread a 1 3", (I, one(2), J)), ("read", "a", (I, J)))
        self.assertEqual(rule("spread a 2 3", (one(0), one(1), one(2))), ("read", "a", (one(0), one(1))))

    def test_of_turn(self):
        self.assertEqual(rule("turn s -", ()), ("read", "s", ()))
        self.assertEqual(rule("turn a 0,1", (I, J)), ("read", "a", (I, J)))
        self.assertEqual(rule("turn a 1,0", (I, J)), ("read", "a", (J, I)))
        text = text_of("g = spread a 0 3", "x = turn g 2,0,1", "y = turn g 1,2,0")
        self.assertEqual(rule_term(text, "x", (one(7), one(8), one(9))), ("read", "g", (one(8), one(9), one(7))))
        self.assertEqual(rule_term(text, "y", (one(7), one(8), one(9))), ("read", "g", (one(9), one(7), one(8))))

    def test_of_part(self):
        self.assertEqual(rule("part a 0 2 0", (I, J)), ("read", "a", ((2, (("i0", 1),)), J)))
        self.assertEqual(rule("part a 1 1+n 0", (I, J)), ("read", "a", (I, (1, (("i1", 1), ("n", 1))))))
        self.assertEqual(rule("part u 0 n 0", (one(4),)), ("read", "u", ((4, (("n", 1),)),)))
        self.assertEqual(rule("part u 0 n 0", ((0, (("n", -1),)),)), ("read", "u", (one(0),)))

    def test_of_join(self):
        self.assertEqual(rule("join a b 0", (I, J)), ("below", I, N, ("read", "a", (I, J)), ("read", "b", ((0, (("i0", 1), ("n", -1))), J))))
        self.assertEqual(rule("join b a 1", (I, J)), ("below", J, N, ("read", "b", (I, J)), ("read", "a", (I, (0, (("i1", 1), ("n", -1)))))))
        self.assertEqual(rule("join w u 0", (one(5),)), ("below", one(5), (2, (("m", 1),)), ("read", "w", (one(5),)), ("read", "u", ((3, (("m", -1),)),))))
        text = text_of("y = join u w 0", "x = join y u 0")
        self.assertEqual(rule_term(text, "x", (I,))[2], (2, (("m", 1), ("n", 1))))

    def test_of_fold(self):
        self.assertEqual(rule("fold plus @0 @1 from -1/2 of u 0", ()), ("fold", "v0", N, ("plus", ARG, OTHER), (-1, 2), ("read", "u", (V,))))
        self.assertEqual(rule("fold @0 from yes of a 0", (I,)), ("fold", "v0", N, ARG, True, ("read", "a", (V, I))))
        self.assertEqual(rule("fold @0 from 0 of a 1", (I,)), ("fold", "v0", M, ARG, (0, 1), ("read", "a", (I, V))))
        self.assertEqual(rule("fold @0 from 0 of w 0", ()), ("fold", "v0", (2, (("m", 1),)), ARG, (0, 1), ("read", "w", (V,))))
        text = text_of("g = spread a 2 3", "x = fold @0 from 0 of g 1")
        self.assertEqual(rule_term(text, "x", (one(1), J)), ("fold", "v0", M, ARG, (0, 1), ("read", "g", (one(1), V, J))))

    def test_of_run(self):
        self.assertEqual(rule("run plus @0 @1 from 0 of u 0", (I,)), ("fold", "v0", (1, (("i0", 1),)), ("plus", ARG, OTHER), (0, 1), ("read", "u", (V,))))
        self.assertEqual(rule("run @1 from no of t 1", (I, J)), ("fold", "v0", (1, (("i1", 1),)), OTHER, False, ("read", "t", (I, V))))
        self.assertEqual(rule("run @1 from no of t 0", (one(3), J)), ("fold", "v0", one(4), OTHER, False, ("read", "t", (V, J))))
        self.assertEqual(rule("run @1 from 0 of u 0", ((-1, (("i0", 1), ("n", 1))),))[2], (0, (("i0", 1), ("n", 1))))

    def test_of_where(self):
        cell = (I, one(1))
        self.assertEqual(rule("where t a b", cell), ("if", ("read", "t", cell), ("read", "a", cell), ("read", "b", cell)))

    def test_of_pick(self):
        self.assertEqual(rule("pick u s", ()), ("pick", "u", ("read", "s", ()), N, ()))
        self.assertEqual(rule("pick w u", (I,)), ("pick", "w", ("read", "u", (I,)), (2, (("m", 1),)), ()))
        self.assertEqual(rule("pick a s", (I,)), ("pick", "a", ("read", "s", ()), N, (I,)))
        self.assertEqual(rule("pick b a", (I, J, one(2))), ("pick", "b", ("read", "a", (I, J)), M, (one(2),)))
        self.assertEqual(rule("pick u a", (I, J)), ("pick", "u", ("read", "a", (I, J)), N, ()))

    def test_of_put(self):
        self.assertEqual(rule("put u u u", (I,)), ("put", "v0", N, ("read", "u", (V,)), I, None, ("read", "u", (I,)), ("read", "u", (V,))))
        text = text_of("x = put u w w by minus @1 @0")
        self.assertEqual(rule_term(text, "x", (one(3),)), (
            "put", "v0", (2, (("m", 1),)), ("read", "w", (V,)), one(3), ("minus", OTHER, ARG), ("read", "u", (one(3),)), ("read", "w", (V,))))

    def test_of_put_its_length_is_that_of_the_numbers(self):
        text = text_of("x = put u w u")
        self.assertEqual(rule_term(text, "x", (I,)), ("put", "v0", (2, (("m", 1),)), ("read", "w", (V,)), I, None, ("read", "u", (I,)), ("read", "u", (V,))))

    def test_within_folds_and_puts(self):
        for around, var, place in ((0, "v0", V), (1, "v1", W), (2, "v2", X), (11, "v11", (0, (("v11", 1),)))):
            self.assertEqual(rule("fold @1 from 0 of u 0", (), around=around), ("fold", var, N, OTHER, (0, 1), ("read", "u", (place,))))
            self.assertEqual(rule("run @1 from 0 of u 0", (V,), around=around), ("fold", var, (1, (("v0", 1),)), OTHER, (0, 1), ("read", "u", (place,))))
            self.assertEqual(rule("put u u u", (V,), around=around), ("put", var, N, ("read", "u", (place,)), V, None, ("read", "u", (V,)), ("read", "u", (place,))))
            for deed in ("map plus @0 @0 of u", "count 0 of n", "spread s 0 n", "turn u 0", "part u 0 1 1", "join u u 0", "pick u u"):
                self.assertEqual(rule(deed, (W,), around=around), rule(deed, (W,)))

    def test_texts_that_do_not_fit(self):
        text = text_of("y = map @0 of a b", "x = join a y 0", "z = part x 0 7 n", "v = run @1 from 0 of z 0", "p = put u w u")
        self.assertEqual(rule_term(text, "y", (I, J)), ("read", "a", (I, J)))
        self.assertEqual(rule_term(text, "x", (I, J))[2], N)
        self.assertEqual(rule_term(text, "z", (I, J)), ("read", "x", ((7, (("i0", 1),)), J)))
        self.assertEqual(rule_term(text, "v", (I, J))[0], "fold")

    def test_of_inputs_none(self):
        for name in "abtuws":
            self.assertIsNone(rule_term(text_of("x = turn s -"), name, ()))
            self.assertIsNone(rule_term(text_of(), name, (I, J), around=3))

    def test_no_name(self):
        text = text_of("x = turn s -")
        for ask in (lambda name: rule_term(text, name, ()), lambda name: rule_term(text, name, (I,), around=1), lambda name: is_safe_name(text, name)):
            for thing in NO_NAMES:
                with self.assertRaises(NoName, msg=repr(thing)[:80]) as caught:
                    ask(thing)
                self.assertIs(caught.exception.name, thing)
        with self.assertRaises(NoName):
            rule_term(((), ()), "a", ())

    def test_no_text(self):
        assert_no_text_first(self, lambda thing: rule_term(thing, "a", ()))
        assert_no_text_first(self, lambda thing: rule_term(thing, None, (), around=2))
        assert_no_text_first(self, lambda thing: rule_term(text=thing, name="q", cell=()))
        assert_no_text_first(self, lambda thing: is_safe_name(thing, "a"))
        assert_no_text_first(self, lambda thing: is_safe_name(name=[], text=thing))

    def test_by_names(self):
        text = text_of("x = turn u 0")
        self.assertEqual(rule_term(cell=(I,), name="x", text=text, around=0), ("read", "u", (I,)))
        self.assertIs(is_safe_name(name="x", text=text), True)
        with self.assertRaises(TypeError):
            rule_term(text, "x", (I,), 0)


class Safe(unittest.TestCase):
    def test_each_deed(self):
        for deed, is_safe in (
            ("map plus @0 @0 of a", True), ("map over @0 2 of a", True), ("map over @0 -1/3 of a", True), ("map over @0 0 of a", False), ("map over 1 @0 of a", False),
            ("map if yes 1 over @0 plus 1 1 of a", False), ("map like less over @0 @0 1 no of a", False), ("map 1 of a", True),
            ("count 0 of n", True), ("spread s 0 n", True), ("turn a 1,0", True), ("part a 0 0 n", True), ("part a 0 1 n", True), ("join a a 0", True),
            ("fold plus @0 @1 from 0 of u 0", True), ("fold over @0 @1 from 0 of u 0", False), ("fold over @1 7 from 0 of u 0", True),
            ("run plus @0 @1 from 0 of u 0", True), ("run over @1 @0 from 0 of u 0", False), ("run over @0 2 from 1 of a 1", True),
            ("where t a b", True), ("pick u u", False), ("pick a s", False),
            ("put u u u", False), ("put u u u by plus @0 @1", True), ("put u u u by over @0 @1", False), ("put u u u by over @0 5", True), ("put u u u by @1", True),
        ):
            self.assertIs(is_safe_name(text_of(f"x = {deed}"), "x"), is_safe, deed)

    def test_inputs_are_not(self):
        for name in "abtuws":
            self.assertIs(is_safe_name(text_of("x = turn s -"), name), False)

    def test_each_row_by_itself(self):
        text = text_of("x = pick u u", "y = map @0 of x", "z = put u y u", "v = turn z 0")
        self.assertEqual([is_safe_name(text, name) for name in "xyzv"], [False, True, False, True])


class Asked:
    """Keeps what is asked of it, in order, and how."""

    def __init__(self, worths):
        self.worths, self.calls = worths, []

    def __call__(self, *places, **names):
        assert not names and len(places) == 2
        self.calls.append(places)
        return self.worths.get(places)


class Worths(unittest.TestCase):
    def assert_told(self, term, told, cells, worths=(), numbers=(), **more):
        """A term comes to this and asks for these cells of one axis, each written as a name and a number."""
        worths = {(name, (at,)): worth for (name, at), worth in dict(worths).items()}
        ask = Asked(worths)
        kept = copy.deepcopy((term, dict(numbers), worths))
        numbers = dict(numbers)
        found = worth_at(term, numbers, ask, **more)
        self.assertEqual(repr(found), repr((told, [(name, (at,)) for name, at in cells])))
        self.assertEqual((term, numbers, worths), kept)
        self.assertIsInstance(found, tuple)
        self.assertIsInstance(found[1], list)
        firsts = []
        for call in ask.calls:
            if call not in firsts:
                firsts.append(call)
        self.assertEqual(firsts, found[1])
        return ask.calls

    def read(self, name, at):
        return ("read", name, (at if isinstance(at, tuple) else one(at),))

    def test_leaves(self):
        self.assert_told(("number", -3, 2), ("worth", (-3, 2)), [])
        self.assert_told(("truth", False), ("worth", False), [])
        self.assert_told(("count", (2, (("i0", 3), ("n", -1)))), ("worth", (-2, 1)), [], numbers={"i0": 1, "n": 7, "z": 9})
        self.assert_told(("count", one(GREAT)), ("worth", (GREAT, 1)), [])

    def test_reads(self):
        self.assert_told(self.read("a", 3), ("worth", (5, 1)), [("a", 3)], {("a", 3): (5, 1)})
        self.assert_told(self.read("a", (1, (("i0", 2),))), ("worth", True), [("a", 9)], {("a", 9): True}, {"i0": 4})
        self.assert_told(self.read("a", 3), ("lost", "a", (3,)), [("a", 3)])
        ask = Asked({("s", ()): (1, 2), ("a", (4, -1)): False})
        self.assertEqual(worth_at(("read", "s", ()), {}, ask), (("worth", (1, 2)), [("s", ())]))
        self.assertEqual(worth_at(("read", "a", ((0, (("k", 2),)), one(-1))), {"k": 2}, ask), (("worth", False), [("a", (4, -1))]))
        self.assertEqual(ask.calls, [("s", ()), ("a", (4, -1))])

    def test_each_operation(self):
        for word, parts, worth in (
            ("plus", [(1, 2), (1, 3)], (5, 6)), ("minus", [(1, 2), (1, 3)], (1, 6)), ("times", [(2, 3), (3, 4)], (1, 2)), ("over", [(2, 3), (-4, 3)], (-1, 2)),
            ("least", [(1, 2), (1, 3)], (1, 3)), ("most", [(1, 2), (1, 3)], (1, 2)), ("less", [(1, 3), (1, 2)], True), ("less", [(1, 2), (1, 2)], False),
            ("like", [(1, 2), (1, 2)], True), ("like", [True, False], False), ("not", [True], False), ("and", [True, False], False), ("and", [True, True], True),
            ("or", [False, True], True), ("or", [False, False], False), ("over", [(0, 1), (5, 1)], (0, 1)),
        ):
            worths = {("a", at): part for at, part in enumerate(parts)}
            self.assert_told((word, *[self.read("a", at) for at in range(len(parts))]), ("worth", worth), [("a", at) for at in range(len(parts))], worths)

    def test_over_nought(self):
        self.assert_told(("over", ("number", 1, 1), ("number", 0, 1)), ("fault", "nought"), [])
        self.assert_told(("over", self.read("a", 0), self.read("a", 1)), ("fault", "nought"), [("a", 0), ("a", 1)], {("a", 0): (1, 1), ("a", 1): (0, 1)})
        self.assert_told(("over", ("number", 0, 1), ("number", 0, 1)), ("fault", "nought"), [])
        # What stands behind a fault isn't asked.
        fault = ("over", ("number", 1, 1), ("number", 0, 1))
        self.assert_told(("plus", fault, self.read("a", 0)), ("fault", "nought"), [], {("a", 0): (1, 1)})
        self.assert_told(("plus", self.read("a", 0), ("times", fault, self.read("a", 1))), ("fault", "nought"), [("a", 0)], {("a", 0): (1, 1)})

    def test_order_and_each_once(self):
        reads = [self.read("a", at) for at in (2, 0, 2, 1, 0)]
        worths = {("a", at): (at, 1) for at in range(3)}
        term = ("plus", reads[0], ("times", ("minus", reads[1], reads[2]), ("most", reads[3], reads[4])))
        calls = self.assert_told(term, ("worth", (0, 1)), [("a", 2), ("a", 0), ("a", 1)], worths)
        self.assertEqual(calls, [("a", (at,)) for at in (2, 0, 2, 1, 0)])
        self.assert_told(("plus", self.read("b", 0), self.read("a", 0)), ("worth", (2, 1)), [("b", 0), ("a", 0)], {("a", 0): (1, 1), ("b", 0): (1, 1)})

    def test_and_and_or_ask_for_both(self):
        worths = {("a", 0): False, ("a", 1): True}
        self.assert_told(("and", self.read("a", 0), self.read("a", 1)), ("worth", False), [("a", 0), ("a", 1)], worths)
        self.assert_told(("or", self.read("a", 1), self.read("a", 0)), ("worth", True), [("a", 1), ("a", 0)], worths)
        self.assert_told(("and", self.read("a", 0), self.read("a", 7)), ("lost", "a", (7,)), [("a", 0), ("a", 7)], worths)

    def test_a_cell_that_is_not_there(self):
        worths = {("a", 0): (1, 1), ("a", 1): (2, 1)}
        self.assert_told(("plus", self.read("b", 0), self.read("a", 0)), ("lost", "b", (0,)), [("b", 0)], worths)
        self.assert_told(("plus", self.read("a", 0), ("plus", self.read("b", 5), self.read("a", 1))), ("lost", "b", (5,)), [("a", 0), ("b", 5)], worths)
        self.assert_told(("plus", self.read("b", 0), self.read("c", 0)), ("lost", "b", (0,)), [("b", 0)], worths)
        fault = ("over", ("number", 1, 1), ("number", 0, 1))
        self.assert_told(("plus", fault, self.read("b", 0)), ("fault", "nought"), [], worths)
        self.assert_told(("plus", self.read("b", 0), fault), ("lost", "b", (0,)), [("b", 0)], worths)
        self.assert_told(("not", self.read("b", 0)), ("lost", "b", (0,)), [("b", 0)], worths)
        # False and nought are worths.
        self.assert_told(("not", self.read("a", 0)), ("worth", True), [("a", 0)], {("a", 0): False})
        self.assert_told(("if", self.read("a", 0), self.read("a", 1), self.read("a", 2)), ("worth", False), [("a", 0), ("a", 2)], {("a", 0): False, ("a", 2): False})

    def test_if_asks_for_one_side(self):
        for truth, at in ((True, 1), (False, 2)):
            worths = {("a", 0): truth, ("a", at): (at, 1)}
            self.assert_told(("if", self.read("a", 0), self.read("a", 1), self.read("a", 2)), ("worth", (at, 1)), [("a", 0), ("a", at)], worths)
        self.assert_told(("if", self.read("a", 0), self.read("a", 1), self.read("a", 2)), ("lost", "a", (0,)), [("a", 0)])
        fault = ("over", ("number", 1, 1), ("number", 0, 1))
        self.assert_told(("if", ("truth", True), self.read("a", 1), fault), ("worth", (1, 1)), [("a", 1)], {("a", 1): (1, 1)})
        self.assert_told(("if", ("less", fault, fault), self.read("a", 1), fault), ("fault", "nought"), [])

    def test_below_asks_for_one_side(self):
        for number, at in ((2, 1), (3, 2), (4, 2), (-1, 1)):
            worths = {("a", at): (at, 1)}
            self.assert_told(("below", (0, (("i0", 1),)), (1, (("n", 1),)), self.read("a", 1), self.read("a", 2)), ("worth", (at, 1)), [("a", at)], worths, {"i0": number, "n": 2})

    def fold(self, expression, begin, end, name="a"):
        return ("fold", "v0", one(end), expression, begin, self.read(name, (0, (("v0", 1),))))

    def test_fold(self):
        worths = {("a", at): (at + 1, 1) for at in range(4)}
        self.assert_told(self.fold(("plus", ("times", ARG, ("number", 10, 1)), OTHER), (0, 1), 3), ("worth", (123, 1)), [("a", 0), ("a", 1), ("a", 2)], worths)
        self.assert_told(self.fold(("plus", ARG, OTHER), (7, 2), 0), ("worth", (7, 2)), [], worths)
        self.assert_told(self.fold(ARG, True, -3), ("worth", True), [], worths)
        self.assert_told(self.fold(ARG, (9, 1), 3), ("worth", (9, 1)), [("a", 0), ("a", 1), ("a", 2)], worths)
        self.assert_told(self.fold(OTHER, (9, 1), 2), ("worth", (2, 1)), [("a", 0), ("a", 1)], worths)
        self.assert_told(self.fold(("number", 5, 1), (9, 1), 2), ("worth", (5, 1)), [("a", 0), ("a", 1)], worths)
        end = ("fold", "v0", (1, (("i0", 1),)), ("plus", ARG, OTHER), (0, 1), self.read("a", (0, (("v0", 1),))))
        self.assert_told(end, ("worth", (6, 1)), [("a", 0), ("a", 1), ("a", 2)], worths, {"i0": 2})

    def test_fold_ends_at_a_fault_or_a_cell_that_is_not_there(self):
        worths = {("a", 0): (1, 1), ("a", 1): (0, 1), ("a", 2): (1, 1)}
        self.assert_told(self.fold(("over", ARG, OTHER), (1, 1), 3), ("fault", "nought"), [("a", 0), ("a", 1)], worths)
        self.assert_told(self.fold(ARG, (1, 1), 5), ("lost", "a", (3,)), [("a", at) for at in range(4)], worths)
        self.assert_told(self.fold(("if", ("less", ARG, OTHER), ARG, ("over", ARG, OTHER)), (-1, 1), 3), ("worth", (-1, 1)), [("a", 0), ("a", 1), ("a", 2)], worths)
        inner = ("fold", "v0", one(2), ARG, (1, 1), ("over", ("number", 1, 1), ("count", (-1, (("v0", 1),)))))
        self.assert_told(inner, ("fault", "nought"), [])

    def test_folds_within_folds(self):
        inner = ("fold", "v1", (1, (("v0", 1),)), ("plus", ARG, OTHER), (0, 1), self.read("a", (0, (("v0", 10), ("v1", 1)))))
        worths = {("a", 10 * row + at): (1, 1) for row in range(3) for at in range(3)}
        self.assert_told(("fold", "v0", one(3), ("plus", ARG, OTHER), (0, 1), inner), ("worth", (6, 1)), [("a", at) for at in (0, 10, 11, 20, 21, 22)], worths)
        # Beside one another they bind the same var, which stands for nothing behind them.
        twice = ("plus", self.fold(("plus", ARG, OTHER), (0, 1), 2), self.fold(("plus", ARG, OTHER), (0, 1), 3))
        self.assert_told(twice, ("worth", (5, 1)), [("a", 0), ("a", 1), ("a", 2)], {("a", at): (1, 1) for at in range(3)})
        self.assert_told(("plus", self.fold(ARG, (0, 1), 2), ("count", (0, (("v0", 1),)))), ("worth", (8, 1)), [("a", 0), ("a", 1)], worths | {("a", 0): (1, 1), ("a", 1): (1, 1)}, {"v0": 8})

    def pick(self, number, length=3, cell=()):
        return ("pick", "a", number, one(length), cell)

    def test_pick(self):
        worths = {("b", 0): (2, 1), ("a", 2): (7, 3)}
        self.assert_told(self.pick(self.read("b", 0)), ("worth", (7, 3)), [("b", 0), ("a", 2)], worths)
        self.assert_told(self.pick(self.read("b", 0), 2), ("fault", "pick"), [("b", 0)], worths)
        self.assert_told(self.pick(self.read("b", 1)), ("lost", "b", (1,)), [("b", 1)], worths)
        self.assert_told(self.pick(("number", 1, 1)), ("lost", "a", (1,)), [("a", 1)], worths)
        self.assert_told(self.pick(("number", 0, 1), 1), ("worth", True), [("a", 0)], {("a", 0): True})
        for top, bottom in ((3, 1), (4, 1), (-1, 1), (1, 2), (5, 2), (-1, 2), (GREAT, 1)):
            self.assert_told(self.pick(("number", top, bottom)), ("fault", "pick"), [], worths)
        self.assert_told(self.pick(("number", 0, 1), 0), ("fault", "pick"), [], {("a", 0): True})
        self.assert_told(self.pick(("over", ("number", 0, 1), ("number", 0, 1))), ("fault", "nought"), [])
        ask = Asked({("a", (2, 4, 1)): (1, 1)})
        self.assertEqual(worth_at(("pick", "a", ("count", (0, (("i0", 2),))), N, ((3, (("i0", 1),)), one(1))), {"i0": 1, "n": 3}, ask), (("worth", (1, 1)), [("a", (2, 4, 1))]))

    def put(self, expression, at=0, end=3):
        there = (0, (("v0", 1),))
        return ("put", "v0", one(end), self.read("k", there), one(at), expression, self.read("a", at), self.read("b", there))

    def test_put(self):
        worths = {("a", 0): (100, 1), ("k", 0): (0, 1), ("k", 1): (1, 1), ("k", 2): (0, 1), ("b", 0): (3, 1), ("b", 2): (5, 1)}
        step = ("plus", ("times", ARG, ("number", 2, 1)), OTHER)
        self.assert_told(self.put(step), ("worth", (411, 1)), [("a", 0), ("k", 0), ("b", 0), ("k", 1), ("k", 2), ("b", 2)], worths)
        self.assert_told(self.put(None), ("fault", "twice"), [("a", 0), ("k", 0), ("b", 0), ("k", 1), ("k", 2)], worths)
        self.assert_told(self.put(None, end=2), ("worth", (3, 1)), [("a", 0), ("k", 0), ("b", 0), ("k", 1)], worths)
        self.assert_told(self.put(None, end=0), ("worth", (100, 1)), [("a", 0)], worths)
        self.assert_told(self.put(step, end=0), ("worth", (100, 1)), [("a", 0)], worths)
        self.assert_told(self.put(("over", ARG, ("minus", OTHER, OTHER))), ("fault", "nought"), [("a", 0), ("k", 0), ("b", 0)], worths)
        self.assert_told(self.put(OTHER), ("worth", (5, 1)), [("a", 0), ("k", 0), ("b", 0), ("k", 1), ("k", 2), ("b", 2)], worths)
        self.assert_told(self.put(ARG), ("worth", (100, 1)), [("a", 0), ("k", 0), ("b", 0), ("k", 1), ("k", 2), ("b", 2)], worths)

    def test_put_at_no_number(self):
        worths = {("a", 2): (9, 1), ("k", 0): (0, 1), ("k", 1): (5, 2), ("k", 2): (-2, 1)}
        for expression in (None, OTHER):
            self.assert_told(self.put(expression, at=2), ("worth", (9, 1)), [("a", 2), ("k", 0), ("k", 1), ("k", 2)], worths)

    def test_put_ends_where_a_cell_is_not_there(self):
        worths = {("a", 0): (9, 1), ("k", 0): (1, 1), ("k", 1): (0, 1)}
        self.assert_told(self.put(None, at=1), ("lost", "a", (1,)), [("a", 1)], worths)
        self.assert_told(self.put(None), ("lost", "b", (1,)), [("a", 0), ("k", 0), ("k", 1), ("b", 1)], worths)
        self.assert_told(self.put(OTHER), ("lost", "b", (1,)), [("a", 0), ("k", 0), ("k", 1), ("b", 1)], worths)
        self.assert_told(self.put(OTHER), ("lost", "k", (2,)), [("a", 0), ("k", 0), ("k", 1), ("b", 1), ("k", 2)], worths | {("b", 1): (1, 1)})
        self.assert_told(self.put(None), ("lost", "k", (2,)), [("a", 0), ("k", 0), ("k", 1), ("b", 1), ("k", 2)], worths | {("b", 1): (1, 1)})

    def test_put_of_truths_and_within_a_fold(self):
        worths = {("a", 0): True, ("k", 0): (0, 1), ("b", 0): False}
        self.assert_told(self.put(None, end=1), ("worth", False), [("a", 0), ("k", 0), ("b", 0)], worths)
        there = (0, (("v1", 1),))
        inner = ("put", "v1", one(2), self.read("k", there), (0, (("v0", 1),)), ("plus", ARG, OTHER), self.read("a", (0, (("v0", 1),))), self.read("b", there))
        worths = {("a", 0): (1, 1), ("a", 1): (2, 1), ("k", 0): (1, 1), ("k", 1): (1, 1), ("b", 0): (10, 1), ("b", 1): (20, 1)}
        self.assert_told(("fold", "v0", one(2), ("plus", ARG, OTHER), (0, 1), inner), ("worth", (33, 1)), [("a", 0), ("k", 0), ("k", 1), ("a", 1), ("b", 0), ("b", 1)], worths)

    def test_carry(self):
        term = ("carry", 0, ("plus", ARG, OTHER), (5, 1), self.read("u", (0, (("i0", 1),))))
        worths = {("u", 0): (1, 1), ("u", 1): (2, 1), ("u", 2): (3, 1), ("r", 1): (40, 1)}
        self.assert_told(term, ("worth", (6, 1)), [("u", 0)], worths, {"i0": 0}, name="r", cell=(0,))
        self.assert_told(term, ("worth", (43, 1)), [("r", 1), ("u", 2)], worths, {"i0": 2}, name="r", cell=(2,))
        self.assert_told(term, ("lost", "r", (0,)), [("r", 0)], worths, {"i0": 1}, name="r", cell=(1,))
        self.assert_told(term, ("lost", "u", (3,)), [("r", 2), ("u", 3)], worths | {("r", 2): (1, 1)}, {"i0": 3}, name="r", cell=(3,))
        fault = ("carry", 0, ("over", ARG, OTHER), (5, 1), ("number", 0, 1))
        self.assert_told(fault, ("fault", "nought"), [("r", 1)], worths, {"i0": 2}, name="r", cell=(2,))
        self.assert_told(fault, ("fault", "nought"), [], worths, {"i0": 0}, cell=(0,), name="r")
        ask = Asked({("r", (3, 1)): True, ("u", (3, 2)): False, ("r", (2, 2)): False})
        for axis, before in ((1, (3, 1)), (0, (2, 2))):
            term = ("carry", axis, ("or", ARG, OTHER), False, ("read", "u", (I, J)))
            self.assertEqual(worth_at(term, {"i0": 3, "i1": 2}, ask, name="r", cell=(3, 2)), (("worth", axis == 1), [("r", before), ("u", (3, 2))]))

    def test_by_names(self):
        ask = Asked({("a", (1,)): (2, 1)})
        self.assertEqual(worth_at(ask=ask, numbers={}, term=self.read("a", 1), name=None, cell=()), (("worth", (2, 1)), [("a", (1,))]))
        self.assertEqual(ask.calls, [("a", (1,))])
        with self.assertRaises(TypeError):
            worth_at(self.read("a", 1), {}, ask, "a")

    def test_told_lists_are_new(self):
        ask = Asked({("a", (1,)): (2, 1)})
        _, told = worth_at(self.read("a", 1), {}, ask)
        told.append(7)
        self.assertEqual(worth_at(self.read("a", 1), {}, ask)[1], [("a", (1,))])

    def test_what_is_asked_may_ask_itself(self):
        def ask(name, cell):
            return (cell[0], 1) if cell[0] < 2 else worth_at(("plus", self.read("f", cell[0] - 1), self.read("f", cell[0] - 2)), {}, ask)[0][1]
        self.assertEqual(worth_at(self.read("f", 12), {}, ask), (("worth", (144, 1)), [("f", (12,))]))

    def test_rules_of_chance_texts(self):
        for seed in range(300):
            chance = Random(seed)
            text, known = any_fitting(chance)
            lengths = {letter: chance.randint(0, 3) for letter in letters_of(text)}
            told = outcomes(text, known, lengths, any_inputs(chance, text, lengths))

            def ask(name, cell):
                return told[name][cell][1] if told[name][cell][0] == "worth" else None
            for name, _ in text[1]:
                own = rule_term(text, name, tuple((0, ((f"i{axis}", 1),)) for axis in range(len(known[name][1]))))
                for cell, due in told[name].items():
                    numbers = {**lengths, **{f"i{axis}": at for axis, at in enumerate(cell)}}
                    found = worth_at(own, numbers, ask)
                    self.assertEqual(found[0], due)
                    self.assertEqual(worth_at(rule_term(text, name, tuple(constant(at) for at in cell), around=3), lengths, ask), found)


if __name__ == "__main__":
    unittest.main()
