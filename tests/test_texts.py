import unittest
from itertools import permutations, product
from random import Random

from everycell.errors import NoName, NoText
from everycell.texts import deed_of, kinds_by, letters_of, look_at_text, names_of, ranks_by, sources_of
from tests.things import GREAT, KINDS, SIGNATURES, any_text, many_things

N, M, ONE, NOUGHT = (0, (("n", 1),)), (2, (("m", 3),)), (1, ()), (0, ())
NEITHER = (
    (-1, ()), (0, (("n", -1),)), (0, (("nn", 1),)), (0, (("N", 1),)), (0, (("n", 0),)), (0, (("n", 1), ("m", 1))), (0, (("n", 1), ("n", 1))),
    (True, ()), (0, (("n", True),)), (0, ()) + ((),), [0, ()], (0, []), None, "n", "", 0, 3, True, (), ("n", 1), (0,), {}, [],
)
INPUTS = (
    ("na", "number", ()), ("nb", "number", (N,)), ("nc", "number", (N, M)), ("nd", "number", (N, M, ONE)),
    ("ta", "truth", ()), ("tb", "truth", (M,)),
)
LESS = ("less", ("arg", 0), ("arg", 1))
ROWS = (("tc", ("map", LESS, ("nc", "nc"))), ("td", ("map", LESS, ("nd", "nd"))))
KNOWN = {
    "na": ("number", 0), "nb": ("number", 1), "nc": ("number", 2), "nd": ("number", 3),
    "ta": ("truth", 0), "tb": ("truth", 1), "tc": ("truth", 2), "td": ("truth", 3),
}
# No names ahead: its own, a later one, no names at all, things that are no texts, and such that can be no key.
NO_SOURCES = ("x", "later", "n", "", "NA", "na ", "number", None, True, 0, 1, ("na",), ["na"], {"na": 1}, {"na"}, b"na", (), [], {})
NO_AXES = (-1, 3, 4, GREAT, -GREAT, True, False, None, "0", "", (0,), [0], {}, (), b"0", {0})
ARG, OTHER = ("arg", 0), ("arg", 1)


def text_with(deed):
    return (INPUTS, ROWS + (("x", deed), ("later", ("map", ARG, ("na",)))))


class Case(unittest.TestCase):
    def part_and_number(self, thing):
        with self.assertRaises(NoText) as caught:
            look_at_text(thing)
        return caught.exception.part, caught.exception.number

    def assert_none(self, thing, part, number):
        told = self.part_and_number(thing)
        self.assertEqual(told, (part, number), repr(thing)[:300])
        self.assertIs(type(told[1]), type(number))

    def assert_no_deed(self, deed):
        self.assert_none(text_with(deed), "rows", 2)

    def assert_makes(self, deed, kind, rank):
        """A deed makes an array of this kind and rank; None is told where it is none."""
        if kind is None:
            return self.assert_no_deed(deed)
        text = text_with(deed)
        self.assertIsNone(look_at_text(text), deed)
        self.assertEqual(kinds_by(text)["x"], kind, deed)
        self.assertEqual(ranks_by(text)["x"], rank, deed)
        self.assertEqual(deed_of(text, "x"), deed)

    def assert_sources_asked(self, deed, places):
        """Each source of a right deed has to be a name ahead."""
        for at in places:
            for wrong in NO_SOURCES:
                self.assert_no_deed(deed[:at] + (wrong,) + deed[at + 1:])


class TheFormOfATextAsAWhole(Case):
    def test_texts(self):
        for text in (((), ()), (INPUTS, ()), (INPUTS, ROWS), ((), (("a", ("count", (N,), 0)),))):
            self.assertIsNone(look_at_text(text))
        self.assertIsNone(look_at_text(thing=((), ())))

    def test_things_of_every_other_kind(self):
        for thing in many_things():
            self.assert_none(thing, "text", None)

    def test_no_tuple_of_two_tuples(self):
        for thing in ((), ((),), ((), (), ()), [(), ()], ([], ()), ((), []), ({}, ()), ((), {}), (None, ()), ((), None), "", (INPUTS,),
                      [INPUTS, ROWS], (list(INPUTS), ROWS), (INPUTS, list(ROWS)), {0: INPUTS, 1: ROWS}, (INPUTS, ROWS, None), "ab", ("", "")):
            self.assert_none(thing, "text", None)

    def test_six_inputs_and_seven(self):
        inputs = tuple((name, "number", ()) for name in "abcdefg")
        for many in range(7):
            self.assertIsNone(look_at_text((inputs[:many], ())))
        self.assert_none((inputs, ()), "text", None)
        self.assert_none((inputs * 3, ()), "text", None)
        self.assert_none(((None,) * 7, ()), "text", None)
        self.assert_none(((None,) * 6, ()), "inputs", 0)

    def test_twelve_rows_and_thirteen(self):
        rows = tuple((name, ("count", (N,), 0)) for name in "abcdefghijklm")
        for many in range(13):
            self.assertIsNone(look_at_text(((), rows[:many])))
        self.assert_none(((), rows), "text", None)
        self.assert_none(((), (None,) * 13), "text", None)
        self.assert_none(((), (None,) * 12), "rows", 0)
        self.assert_none(((None,), (None,) * 13), "text", None)

    def test_both_are_numbered_from_nought(self):
        self.assert_none((INPUTS[:3], ROWS[:1] + (None,)), "rows", 1)
        self.assert_none((INPUTS[:3] + (None,), ()), "inputs", 3)

    def test_what_is_handed_in_stays(self):
        thing = [["a", {"b": []}], [()]]
        self.assert_none(thing, "text", None)
        self.assertEqual(thing, [["a", {"b": []}], [()]])
        inner = ["x", ["count"]]
        self.assert_none(((), (inner,)), "rows", 0)
        self.assertEqual(inner, ["x", ["count"]])


class Inputs(Case):
    def inputs_with(self, thing, at=1):
        inputs = list(INPUTS[:3])
        inputs[at] = thing
        return (tuple(inputs), ())

    def test_things_of_every_other_kind(self):
        for thing in many_things() + [(), ("a",), ("a", "number"), ("a", "number", (), ()), ["a", "number", ()], ("a", "number", N)]:
            for at in range(3):
                self.assert_none(self.inputs_with(thing, at), "inputs", at)

    def test_names(self):
        for name in ("a", "abcdef", "input", "z"):
            self.assertIsNone(look_at_text(self.inputs_with((name, "number", ()))))
        for name in ("", "abcdefg", "A", "a1", "a b", "v0") + NO_SOURCES[7:]:
            self.assert_none(self.inputs_with((name, "number", ())), "inputs", 1)

    def test_a_name_may_be_that_of_a_letter(self):
        self.assertIsNone(look_at_text(((("n", "number", (N,)),), (("m", ("count", (M,), 0)),))))

    def test_kinds(self):
        for kind in ("number", "truth"):
            self.assertEqual(kinds_by(self.inputs_with(("a", kind, ())))["a"], kind)
        for kind in ("", "numbers", "Number", "n", "worth") + tuple(many_things()) + (("number",), ["number"], {"truth"}, b"truth", [], {}, ()):
            self.assert_none(self.inputs_with(("a", kind, ())), "inputs", 1)

    def test_shapes(self):
        for shape in ((), (N,), (N, M), (N, M, NOUGHT), (ONE, ONE, ONE), ((GREAT, (("n", GREAT),)),)):
            text = self.inputs_with(("a", "truth", shape))
            self.assertIsNone(look_at_text(text))
            self.assertEqual(ranks_by(text)["a"], len(shape))
        for shape in ((N,) * 4, [N], [], None, "", {}, N, 0):
            self.assert_none(self.inputs_with(("a", "number", shape)), "inputs", 1)
        for length in NEITHER:
            for shape in ((length,), (N, length), (length, N, N)):
                self.assert_none(self.inputs_with(("a", "number", shape)), "inputs", 1)

    def test_a_name_that_stood_ahead(self):
        inputs = (("a", "number", ()), ("b", "number", ()), ("c", "truth", ()), ("a", "truth", (N,)))
        self.assert_none((inputs, ()), "inputs", 3)
        self.assert_none((inputs[:2] + inputs[1:], ()), "inputs", 2)

    def test_the_first_one_is_told(self):
        self.assert_none((INPUTS[:1] + (None, None), ()), "inputs", 1)
        self.assert_none((INPUTS[:1] + INPUTS[:1] + (None,), ()), "inputs", 1)
        self.assert_none((INPUTS[:2] + (("a", "number", ((-1, ()),)),) + INPUTS[:1], ()), "inputs", 2)


class Rows(Case):
    def test_things_of_every_other_kind(self):
        deed = ("count", (N,), 0)
        for thing in many_things() + [(), ("a",), ("a", deed, deed), ["a", deed], ("a", list(deed)), deed, ("a", None, deed)]:
            self.assert_none((INPUTS, ROWS + (thing,)), "rows", 2)
            self.assert_none((INPUTS, (thing,) + ROWS), "rows", 0)

    def test_names(self):
        for name in ("a", "abcdef", "input", "of"):
            self.assertIsNone(look_at_text(((), ((name, ("count", (N,), 0)),))))
        for name in ("", "abcdefg", "A", "a1", "a b", "v0") + NO_SOURCES[7:]:
            self.assert_none((INPUTS, ((name, ("count", (N,), 0)),)), "rows", 0)

    def test_a_name_that_stood_ahead(self):
        deed = ("count", (N,), 0)
        for name in ("na", "tb"):
            self.assert_none((INPUTS, (("a", deed), (name, deed))), "rows", 1)
        self.assert_none((INPUTS, (("a", deed), ("b", deed), ("a", deed))), "rows", 2)
        self.assert_none((INPUTS, (("a", deed), ("a", deed), ("b", deed))), "rows", 1)

    def test_a_source_stands_ahead(self):
        rows = (("a", ("map", ARG, ("b",))), ("b", ("count", (N,), 0)))
        self.assert_none(((), rows), "rows", 0)
        self.assertIsNone(look_at_text(((), (rows[1], rows[0]))))
        self.assert_none(((), (("a", ("map", ARG, ("a",))),)), "rows", 0)

    def test_other_deeds(self):
        for deed in many_things() + [(), ("count",), "count", ("Count", (N,), 0), ("", (N,), 0), ("what", "na"), ("read", "na", ()), ("if", "ta", "na", "na"),
                                     ("arg", 0), ("number", 1, 1), ("exchange", "nb", 0), (None, "na"), ([], "na"), ({}, "na"), (("turn",), "na", ()),
                                     (["turn"], "na", ()), ({"turn"}, "na", ()), (b"turn", "na", ()), (True, "na"), (0,)]:
            self.assert_no_deed(deed)

    def test_too_few_and_too_many_parts_and_lists(self):
        for deed in (
            ("map", ARG, ("na",)), ("count", (N,), 0), ("spread", "na", 0, N), ("turn", "na", ()), ("part", "nb", 0, N, N), ("join", "nb", "nb", 0),
            ("fold", ARG, (0, 1), "nb", 0), ("run", ARG, (0, 1), "nb", 0), ("where", "ta", "na", "na"), ("pick", "nb", "na"),
            ("put", "nb", "nb", "nb", None), ("put", "nb", "nb", "nb", ARG),
        ):
            self.assertIsNone(look_at_text(text_with(deed)))
            for many in range(len(deed)):
                self.assert_no_deed(deed[:many])
            for more in (None, "na", 0, (), N, ARG):
                self.assert_no_deed(deed + (more,))
            self.assert_no_deed(list(deed))

    def test_the_first_one_is_told(self):
        deed = ("count", (N,), 0)
        self.assert_none(((), (("a", deed), None, None)), "rows", 1)
        self.assert_none(((), (("a", deed), ("b", ("count", (), 0)), ("a", deed))), "rows", 1)
        self.assert_none(((), (("a", ("map", ARG, ("b",))), ("b", None))), "rows", 0)

    def test_inputs_go_ahead_of_rows(self):
        self.assert_none((INPUTS[:1] + (None,), (None,)), "inputs", 1)
        self.assert_none((INPUTS[:5] + INPUTS[:1], (None,)), "inputs", 5)


class Letters(Case):
    def lengths(self, letters):
        return [(0, ((letter, 1),)) for letter in letters]

    def test_four_and_five_in_inputs(self):
        a, b, c, d, e = self.lengths("abcde")
        self.assertIsNone(look_at_text(((("x", "number", (a, b)), ("y", "truth", (c, d, a))), ())))
        self.assert_none(((("x", "number", (a, b, c)), ("y", "truth", (d, e))), ()), "letters", None)
        self.assertIsNone(look_at_text(((("x", "number", ((0, (("a", 1), ("b", 1), ("c", 1), ("d", 1))),)),), ())))
        self.assert_none(((("x", "number", ((0, (("a", 1), ("b", 1), ("c", 1), ("d", 1), ("e", 1))),)),), ()), "letters", None)

    def test_a_fifth_in_each_deed_with_lengths(self):
        a, b, c, d, e = self.lengths("abcde")
        inputs = (("x", "number", (a, b)), ("y", "truth", (c, d)))
        for deed in (
            ("count", (e,), 0), ("count", (a, b, e), 0), ("count", (e, a), 1), ("spread", "x", 0, e), ("part", "x", 0, e, a), ("part", "x", 0, a, e),
        ):
            self.assert_none((inputs, (("z", deed),)), "letters", None)
            self.assertIsNone(look_at_text(((("x", "number", (a, b)), ("y", "truth", (c,))), (("z", deed),))))

    def test_letters_come_behind_inputs_and_rows(self):
        a, b, c, d, e = self.lengths("abcde")
        inputs = (("x", "number", (a, b, c)), ("y", "truth", (d, e)))
        self.assert_none((inputs, (None,)), "rows", 0)
        self.assert_none((inputs + (None,), (None,)), "inputs", 2)
        self.assert_none((inputs, (("z", ("count", (a,), 0)),)), "letters", None)

    def test_letters_of_a_text(self):
        self.assertEqual(letters_of(((), ())), [])
        self.assertEqual(letters_of(((("n", "number", (ONE, NOUGHT)),), ())), [])
        z, k, b, q = self.lengths("zkbq")
        self.assertEqual(letters_of(((("n", "number", (z, k)), ("m", "number", (z,))), ())), ["k", "z"])
        rows = (("x", ("spread", "n", 0, z)), ("y", ("count", (k, q), 0)), ("w", ("part", "y", 0, z, b)), ("v", ("part", "y", 0, b, q)))
        self.assertEqual(letters_of(((("n", "number", ()),), rows[:1])), ["z"])
        self.assertEqual(letters_of(((("n", "number", ()),), rows[1:2])), ["k", "q"])
        self.assertEqual(letters_of(((("n", "number", ()),), rows)), ["b", "k", "q", "z"])
        self.assertEqual(letters_of(text=((("n", "number", ((3, (("d", 2), ("y", 1))),)),), ())), ["d", "y"])


class EachDeed(Case):
    def test_map_by_the_kinds_and_ranks_of_its_sources(self):
        for many in (1, 2, 3):
            for sources in product(KNOWN, repeat=many):
                ranks = [KNOWN[source][1] for source in sources]
                kinds = [KNOWN[source][0] for source in sources]
                alike = ranks.count(ranks[0]) == many
                last = many - 1
                self.assert_makes(("map", ("arg", last), sources), kinds[last] if alike else None, ranks[0])
                right = alike and kinds[0] == kinds[last]
                self.assert_makes(("map", ("like", ARG, ("arg", last)), sources), "truth" if right else None, ranks[0])

    def test_map_of_too_few_and_too_many_sources(self):
        for sources in ((), ("na",) * 4, ("na",) * 9):
            self.assert_no_deed(("map", ("number", 1, 1), sources))
        for sources in (["na"], "na", {"na": 1}, {"na"}, None, 0, ("na", ["na"]), [], "", (("na",),)):
            self.assert_no_deed(("map", ("number", 1, 1), sources))

    def test_map_asks_for_each_source(self):
        for wrong in NO_SOURCES:
            for sources in ((wrong,), (wrong, "na"), ("na", wrong), ("na", "na", wrong), ("na", wrong, "na"), (wrong, wrong)):
                self.assert_no_deed(("map", ("number", 1, 1), sources))

    def test_expressions_by_the_kinds(self):
        for word, signature in SIGNATURES.items():
            for names in product(("na", "ta"), repeat=3):
                kinds = "".join("n" if name == "na" else "t" for name in names)
                for many in (1, 2, 3):
                    expression = (word, *[("arg", at) for at in range(many)])
                    self.assert_makes(("map", expression, names), KINDS.get(signature.get(kinds[:many])), 0)

    def test_what_is_no_expression(self):
        deep = ARG
        for _ in range(7):
            deep = ("plus", ARG, deep)
        self.assert_makes(("map", deep, ("nb",)), "number", 1)
        deeper = ("plus", ARG, deep)
        wrong = [deeper, ("arg", 1), ("arg", -1), ("arg", True), ["arg", 0], ("number", 2, 4), ("truth", 1), ("not", ARG), (), ((), ())] + many_things()
        for expression in wrong:
            self.assert_no_deed(("map", expression, ("nb",)))
            self.assert_no_deed(("fold", expression, (0, 1), "tb", 0))
            self.assert_no_deed(("run", expression, (0, 1), "tb", 0))
        for expression in [each for each in wrong if each is not None and each != ("arg", 1)]:
            self.assert_no_deed(("put", "nb", "nb", "nb", expression))

    def test_count(self):
        for shape in ((N,), (N, M), (N, M, NOUGHT), (ONE, ONE, ONE)):
            for axis in range(len(shape)):
                self.assert_makes(("count", shape, axis), "number", len(shape))
            for axis in (len(shape),) + NO_AXES:
                self.assert_no_deed(("count", shape, axis))
        for axis in (0, 1, -1, None):
            self.assert_no_deed(("count", (), axis))
        for shape in ((N,) * 4, [N], None, "n", N, {}, "", 0, "na", ("na",)):
            self.assert_no_deed(("count", shape, 0))
        for length in NEITHER:
            for shape in ((length,), (N, length)):
                self.assert_no_deed(("count", shape, 0))

    def test_spread(self):
        for source, (kind, rank) in KNOWN.items():
            for axis in range(-1, 6):
                right = 0 <= axis <= rank and rank < 3
                self.assert_makes(("spread", source, axis, M), kind if right else None, rank + 1)
            for axis in NO_AXES:
                if axis != 3:
                    self.assert_no_deed(("spread", source, axis, N))
        for length in NEITHER:
            self.assert_no_deed(("spread", "nb", 0, length))
        for length in (NOUGHT, ONE, N, M, (GREAT, ())):
            self.assert_makes(("spread", "tb", 1, length), "truth", 2)
        self.assert_sources_asked(("spread", "na", 0, N), (1,))

    def test_turn(self):
        for source, (kind, rank) in KNOWN.items():
            for many in range(5):
                for order in product(range(-1, 4), repeat=many):
                    right = sorted(order) == list(range(rank))
                    self.assert_makes(("turn", source, order), kind if right else None, rank)
        for order in ([1, 0], (True, False), (1, False), (True, 0), ("1", "0"), "10", None, {1: 0}, {0, 1}, 0, (None, 0), ([0], 1), range(2)):
            self.assert_no_deed(("turn", "nc", order))
        for order in ([], None, "", {}, 0, (None,)):
            self.assert_no_deed(("turn", "na", order))
        self.assert_sources_asked(("turn", "nb", (0,)), (1,))

    def test_part(self):
        for source, (kind, rank) in KNOWN.items():
            for axis in range(-1, 5):
                self.assert_makes(("part", source, axis, N, M), kind if 0 <= axis < rank else None, rank)
            for axis in NO_AXES:
                self.assert_no_deed(("part", source, axis, N, M))
        for length in NEITHER:
            self.assert_no_deed(("part", "nb", 0, length, N))
            self.assert_no_deed(("part", "nb", 0, N, length))
        for length in (NOUGHT, ONE, N, M, (GREAT, ())):
            self.assert_makes(("part", "nb", 0, length, (7, ())), "number", 1)
            self.assert_makes(("part", "nb", 0, (7, ()), length), "number", 1)
        self.assert_sources_asked(("part", "nb", 0, N, M), (1,))

    def test_join(self):
        for one, other in product(KNOWN, repeat=2):
            kind, rank = KNOWN[one]
            for axis in range(-1, 5):
                right = KNOWN[one] == KNOWN[other] and 0 <= axis < rank
                self.assert_makes(("join", one, other, axis), kind if right else None, rank)
            for axis in NO_AXES:
                self.assert_no_deed(("join", one, other, axis))
        self.assert_sources_asked(("join", "nb", "nb", 0), (1, 2))

    def test_fold_and_run(self):
        cases = (
            (("plus", ARG, OTHER), (0, 1), "n", "n"), (("or", ARG, OTHER), False, "t", "t"), (("if", OTHER, ARG, ("number", 1, 1)), (1, 2), "t", "n"),
            (("like", OTHER, ("number", 1, 1)), True, "n", "t"), (ARG, (0, 1), "nt", "n"), (ARG, True, "nt", "t"), (OTHER, (0, 1), "n", "n"),
        )
        for source, (kind, rank) in KNOWN.items():
            for expression, begin, of, told in cases:
                for axis in range(-1, 5):
                    right = kind[0] in of and 0 <= axis < rank
                    made = KINDS[told] if right else None
                    self.assert_makes(("fold", expression, begin, source, axis), made, rank - 1)
                    self.assert_makes(("run", expression, begin, source, axis), made, rank)
                for axis in NO_AXES:
                    self.assert_no_deed(("fold", expression, begin, source, axis))
                    self.assert_no_deed(("run", expression, begin, source, axis))
        self.assert_sources_asked(("fold", ARG, (0, 1), "nb", 0), (3,))
        self.assert_sources_asked(("run", ARG, (0, 1), "nb", 0), (3,))

    def test_the_kind_of_a_fold_and_of_its_begin_are_the_same(self):
        for word in ("fold", "run"):
            for expression, begin, source in (
                (("less", ARG, OTHER), (0, 1), "nb"), (("less", OTHER, OTHER), (0, 1), "nb"), (OTHER, True, "nb"), (OTHER, (0, 1), "tb"),
                (("plus", ARG, OTHER), True, "nb"), (("plus", ARG, OTHER), (0, 1), "tb"), (("and", ARG, OTHER), (1, 1), "tb"), (("number", 1, 1), False, "nb"),
                (("truth", True), (0, 1), "nb"), (("arg", 2), (0, 1), "nb"),
            ):
                self.assert_no_deed((word, expression, begin, source, 0))

    def test_a_begin_is_a_worth(self):
        for begin in [each for each in many_things() if each is not True and each is not False] + [(2, 4), (1, 0), (0, 2), (1, -1), (True, 1), [1, 1], (), (1, 1, 1)]:
            for expression in (ARG, ("number", 1, 1), ("truth", True)):
                self.assert_no_deed(("fold", expression, begin, "nb", 0))
                self.assert_no_deed(("run", expression, begin, "nb", 0))

    def test_where(self):
        for truths, one, other in product(KNOWN, repeat=3):
            kind, rank = KNOWN[one]
            right = KNOWN[truths] == ("truth", rank) and KNOWN[other] == KNOWN[one]
            self.assert_makes(("where", truths, one, other), kind if right else None, rank)
        self.assert_sources_asked(("where", "tb", "nb", "nb"), (1, 2, 3))

    def test_pick(self):
        for source, numbers in product(KNOWN, repeat=2):
            kind, rank = KNOWN[source]
            of, more = KNOWN[numbers]
            right = rank >= 1 and of == "number" and rank + more - 1 <= 3
            self.assert_makes(("pick", source, numbers), kind if right else None, rank + more - 1)
        self.assert_sources_asked(("pick", "nb", "nb"), (1, 2))

    def test_put(self):
        for source, numbers, values in product(KNOWN, repeat=3):
            kind, rank = KNOWN[source]
            right = rank == 1 and KNOWN[numbers] == ("number", 1) and KNOWN[values] == (kind, 1)
            for expression in (None, ARG, ("if", ("truth", True), ARG, OTHER)):
                self.assert_makes(("put", source, numbers, values, expression), kind if right else None, 1)
        self.assert_sources_asked(("put", "nb", "nb", "nb", None), (1, 2, 3))
        self.assert_sources_asked(("put", "nb", "nb", "nb", OTHER), (1, 2, 3))

    def test_the_expression_of_a_put(self):
        self.assert_makes(("put", "nb", "nb", "nb", ("plus", ARG, OTHER)), "number", 1)
        self.assert_makes(("put", "tb", "nb", "tb", ("and", ARG, OTHER)), "truth", 1)
        self.assert_makes(("put", "nb", "nb", "nb", ("number", 1, 1)), "number", 1)
        for expression in (("less", ARG, OTHER), ("like", ARG, OTHER), ("truth", True), ("arg", 2), ("and", ARG, OTHER), False, True, (), "", 0):
            self.assert_no_deed(("put", "nb", "nb", "nb", expression))
        for expression in (("plus", ARG, OTHER), ("number", 1, 1), ("less", ARG, OTHER), ("arg", 2)):
            self.assert_no_deed(("put", "tb", "nb", "tb", expression))

    def test_shapes_of_one_rank_are_not_compared(self):
        inputs = (("a", "number", (N,)), ("b", "number", (M,)), ("c", "truth", (ONE,)), ("d", "number", (N, M)), ("e", "number", (M, N)))
        for deed in (
            ("map", ("plus", ARG, OTHER), ("a", "b")), ("join", "d", "e", 0), ("where", "c", "a", "b"), ("put", "a", "b", "a", None),
            ("part", "a", 0, M, (100, ())), ("map", ("plus", ARG, OTHER), ("d", "e")),
        ):
            self.assertIsNone(look_at_text((inputs, (("x", deed),))))

    def test_what_rows_make_is_known_behind_them(self):
        rows = (
            ("a", ("spread", "nb", 0, M)), ("b", ("fold", ("like", OTHER, ("number", 1, 1)), True, "a", 1)), ("c", ("where", "b", "b", "b")),
            ("d", ("pick", "a", "nc")), ("e", ("turn", "d", (2, 0, 1))),
        )
        text = (INPUTS, rows)
        self.assertEqual([kinds_by(text)[name] for name in "abcde"], ["number", "truth", "truth", "number", "number"])
        self.assertEqual([ranks_by(text)[name] for name in "abcde"], [2, 1, 1, 3, 3])
        self.assert_none((INPUTS, rows + (("f", ("map", ("not", ARG), ("a",))),)), "rows", 5)
        self.assert_none((INPUTS, rows + (("f", ("spread", "e", 0, N)),)), "rows", 5)


class Told(Case):
    TEXT = (INPUTS, ROWS + (("x", ("count", (N, M), 1)), ("a", ("fold", ARG, True, "td", 2))))

    def test_names_in_order(self):
        self.assertEqual(names_of(self.TEXT), ["na", "nb", "nc", "nd", "ta", "tb", "tc", "td", "x", "a"])
        self.assertEqual(names_of(((("z", "truth", ()), ("b", "number", ())), (("a", ("map", ARG, ("z",))),))), ["z", "b", "a"])
        self.assertEqual(names_of(text=((), ())), [])

    def test_kinds_and_ranks_in_order(self):
        for told in (kinds_by(self.TEXT), ranks_by(text=self.TEXT)):
            self.assertEqual(list(told), names_of(self.TEXT))
        self.assertEqual(kinds_by(self.TEXT), {
            **{name: "number" for name in ("na", "nb", "nc", "nd", "x")}, **{name: "truth" for name in ("ta", "tb", "tc", "td", "a")}})
        self.assertEqual(ranks_by(self.TEXT), {"na": 0, "nb": 1, "nc": 2, "nd": 3, "ta": 0, "tb": 1, "tc": 2, "td": 3, "x": 2, "a": 2})
        self.assertEqual(kinds_by(((), ())), {})
        self.assertEqual(ranks_by(((), ())), {})

    def test_each_told_thing_is_a_new_one(self):
        for tell in (kinds_by, ranks_by):
            first = tell(self.TEXT)
            kept = dict(first)
            first["more"] = 1
            del first["na"]
            self.assertEqual(tell(self.TEXT), kept)
        for tell in (names_of, letters_of):
            first = tell(self.TEXT)
            kept = list(first)
            first.append("more")
            first.reverse()
            self.assertEqual(tell(self.TEXT), kept)
        for name in ("tc", "x"):
            deed = deed_of(self.TEXT, name)
            first = sources_of(deed)
            kept = list(first)
            first.append("more")
            self.assertEqual(sources_of(deed), kept)

    def test_deeds(self):
        for name, deed in self.TEXT[1]:
            self.assertEqual(deed_of(self.TEXT, name), deed)
        for name, _, _ in INPUTS:
            self.assertIsNone(deed_of(self.TEXT, name))
        self.assertEqual(deed_of(name="x", text=self.TEXT), ("count", (N, M), 1))

    def test_no_name_of_anything_that_is_none(self):
        for thing in many_things() + ["zz", "n", "m", "later", "", "na ", ("na",), ["na"], {"na": 1}, {"na"}, b"na", (), [], {}, "number", "count"]:
            for text in (self.TEXT, ((), ())):
                with self.assertRaises(NoName) as caught:
                    deed_of(text, thing)
                self.assertIs(caught.exception.name, thing)

    def test_sources(self):
        for deed, due in (
            (("map", ARG, ("b",)), ["b"]), (("map", OTHER, ("z", "b", "a")), ["z", "b", "a"]), (("map", ARG, ("b", "b")), ["b", "b"]), (("count", (N,), 0), []),
            (("spread", "a", 0, N), ["a"]), (("turn", "a", ()), ["a"]), (("part", "a", 0, N, N), ["a"]), (("join", "z", "b", 0), ["z", "b"]),
            (("fold", ARG, (0, 1), "a", 0), ["a"]), (("run", ARG, True, "a", 0), ["a"]), (("where", "z", "y", "a"), ["z", "y", "a"]), (("pick", "z", "a"), ["z", "a"]),
            (("put", "z", "y", "a", None), ["z", "y", "a"]), (("put", "b", "a", "c", ARG), ["b", "a", "c"]),
        ):
            self.assertEqual(sources_of(deed), due)
        self.assertEqual(sources_of(deed=("turn", "q", ())), ["q"])

    def test_each_refuses_what_is_no_text_ahead_of_all_else(self):
        bad = (((None,), ()), "inputs", 0), (((), (None,)), "rows", 0), (None, "text", None), (((), (), ()), "text", None), (self.TEXT[:1], "text", None)
        asks = (look_at_text, kinds_by, ranks_by, names_of, letters_of, lambda text: deed_of(text, "a"), lambda text: deed_of(text, []))
        for ask in asks:
            for thing, part, number in bad:
                with self.assertRaises(NoText) as caught:
                    ask(thing)
                self.assertEqual((caught.exception.part, caught.exception.number), (part, number))
            for thing in many_things():
                with self.assertRaises(NoText) as caught:
                    ask(thing)
                self.assertEqual((caught.exception.part, caught.exception.number), ("text", None))

    def test_chance_texts(self):
        chance = Random(6)
        for _ in range(300):
            text, known = any_text(chance)
            self.assertIsNone(look_at_text(text))
            self.assertEqual(list(kinds_by(text).items()), [(name, kind) for name, (kind, _) in known.items()])
            self.assertEqual(list(ranks_by(text).items()), [(name, rank) for name, (_, rank) in known.items()])
            self.assertEqual(names_of(text), list(known))
            for name, deed in text[1]:
                self.assertEqual(deed_of(text, name), deed)
                self.assertTrue(set(sources_of(deed)) <= set(known))

    def test_rows_in_another_order(self):
        rows = (("a", ("count", (N,), 0)), ("b", ("map", ARG, ("a",))), ("c", ("join", "a", "b", 0)))
        for order in permutations(range(3)):
            turned = tuple(rows[at] for at in order)
            if order == (0, 1, 2):
                self.assertIsNone(look_at_text(((), turned)))
            else:
                due = next(at for at, number in enumerate(order) if not set(range(number)) <= set(order[:at]))
                self.assert_none(((), turned), "rows", due)


if __name__ == "__main__":
    unittest.main()
