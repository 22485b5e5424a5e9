import unittest
from fractions import Fraction
from itertools import product
from random import Random

from everycell.expressions import done, is_safe, kind_of, worth_by
from tests.things import GREAT, KINDS, SIGNATURES, any_expression, any_worth, many_things

PARTS = {"n": ("arg", 0), "t": ("arg", 1)}
ONE, TWO, NOUGHT = ("number", 1, 1), ("number", 2, 1), ("number", 0, 1)
YES, NO = ("truth", True), ("truth", False)
FALL = ("over", ONE, NOUGHT)


class Nought(Exception):
    pass


def fraction_of(worth):
    return worth if isinstance(worth, bool) else Fraction(*worth)


def worth_of(value):
    return value if isinstance(value, bool) else (value.numerator, value.denominator)


def reckon(expression, args):
    """The value of an expression, by Python's own fractions; Nought where something is over nought."""
    word, *parts = expression
    if word == "arg":
        return fraction_of(args[parts[0]])
    if word == "number":
        return Fraction(*parts)
    if word == "truth":
        return parts[0]
    if word == "if":
        return reckon(parts[1] if reckon(parts[0], args) else parts[2], args)
    values = [reckon(part, args) for part in parts]
    if word == "over" and values[1] == 0:
        raise Nought
    return {
        "plus": lambda a, b: a + b, "minus": lambda a, b: a - b, "times": lambda a, b: a * b, "over": lambda a, b: a / b,
        "least": min, "most": max, "less": lambda a, b: a < b, "like": lambda a, b: a == b, "not": lambda a: not a,
        "and": lambda a, b: a and b, "or": lambda a, b: a or b,
    }[word](*values)


def nested(word, deep, at=0):
    """An expression of so many within one another, the deepest part each time at the place told."""
    kinds = sorted(SIGNATURES[word])[-1]
    told = SIGNATURES[word][kinds]
    if deep == 1:
        return PARTS[told]
    parts = [PARTS[kind] for kind in kinds]
    if kinds[at] == told:
        parts[at] = nested(word, deep - 1, at)
    elif kinds[at] == "n":
        parts[at] = nested("plus", deep - 1)
    else:
        parts[at] = nested("not", deep - 1)
    return (word, *parts)


class OfWhichKind(unittest.TestCase):
    def kind(self, thing, kinds=("number", "truth")):
        return kind_of(thing, kinds)

    def test_args(self):
        for kinds in (("number", "truth", "number"), ["truth"], [], ("truth", "truth", "number", "number"), ()):
            for at, kind in enumerate(kinds):
                self.assertEqual(kind_of(("arg", at), kinds), kind)
            for at in (-1, -2, len(kinds), len(kinds) + 1, GREAT, -GREAT):
                self.assertIsNone(kind_of(("arg", at), kinds), (at, kinds))

    def test_an_args_number_is_whole(self):
        for at in [True, False, None, "0", "", (0,), (0, 1), [0], {}, (), b"0"]:
            self.assertIsNone(self.kind(("arg", at)), repr(at))

    def test_an_arg_has_one_number(self):
        for thing in (("arg",), ("arg", 0, 0), ("arg", 0, None), ("arg", 0, 0, 0)):
            self.assertIsNone(self.kind(thing))

    def test_numbers(self):
        for pair in ((0, 1), (1, 1), (-1, 1), (3, 7), (-22, 7), (GREAT, 1), (1, GREAT)):
            self.assertEqual(self.kind(("number", *pair)), "number")
        no_pairs = (
            (2, 4), (0, 2), (1, 0), (0, 0), (1, -1), (-1, -2), (True, 1), (1, True), (None, 1), (1, None), (), (1,), (1, 1, 1),
            ("1", 1), ((1, 1),), ([], 1), (1, {}),
        )
        for pair in no_pairs:
            self.assertIsNone(self.kind(("number", *pair)), pair)

    def test_truths(self):
        for truth in (True, False):
            self.assertEqual(self.kind(("truth", truth)), "truth")
        for parts in ((0,), (1,), (None,), ("yes",), ("",), ((1, 1),), (), (True, True), (False, None), ([],), ({},), ([True],)):
            self.assertIsNone(self.kind(("truth", *parts)), parts)

    def test_each_operation_by_the_kinds_of_its_parts(self):
        for word, signature in SIGNATURES.items():
            for many in range(0, 5):
                for kinds in product("nt", repeat=many):
                    due = KINDS.get(signature.get("".join(kinds)))
                    for parts in (PARTS, {"n": TWO, "t": NO}):
                        thing = (word, *[parts[kind] for kind in kinds])
                        self.assertEqual(self.kind(thing), due, thing)

    def test_each_part_has_to_be_an_expression(self):
        for word, signature in SIGNATURES.items():
            for kinds in signature:
                for at in range(len(kinds)):
                    for wrong in [("arg", 2), ("what", ONE), (), None, True, "arg", 0, (1, 1), ["arg", 0], [], {}, ("arg",), 7, list(ONE)]:
                        parts = [PARTS[kind] for kind in kinds]
                        parts[at] = wrong
                        self.assertIsNone(self.kind((word, *parts)), (word, parts))
                        self.assertIsNone(self.kind(("not", ("like", ONE, (word, *parts)))))

    def test_other_words(self):
        for word in ("", "what", "Plus", "plus ", "iff", "eq", "none", "arg0", "number ", "True", "pick", "fold", "read", "count"):
            for parts in ((), (0,), (ONE,), (ONE, ONE), (YES,), (YES, YES), (1, 1), (YES, ONE, ONE), (True,)):
                self.assertIsNone(self.kind((word, *parts)), (word, parts))

    def test_words_that_are_no_texts(self):
        for word in many_things() + [(), [], {}, set(), ["plus"], ("plus",), {"plus": 1}, {"plus"}, b"plus", b"arg"]:
            for parts in ((), (0,), (ONE, ONE), (YES,), (YES, ONE, ONE)):
                self.assertIsNone(self.kind((word, *parts)), (repr(word), parts))

    def test_things_of_every_other_kind(self):
        for thing in many_things() + [(), ("plus",), "plus", ["arg", 0], ["number", 1, 1], ["truth", True], {"arg": 0}, (("arg", 0),)]:
            self.assertIsNone(self.kind(thing), repr(thing))
            self.assertIsNone(kind_of(thing, []), repr(thing))

    def test_lists_in_the_place_of_tuples(self):
        for thing in (["plus", ONE, ONE], ("plus", list(ONE), ONE), ("plus", ONE, ["arg", 0]), ("not", list(YES)), ["arg", 0]):
            self.assertIsNone(self.kind(thing))

    def test_kinds_as_a_list_and_as_a_tuple(self):
        for kinds in (["number", "truth", "truth"], ["truth", "number"]):
            handed = list(kinds)
            thing = ("if", ("arg", kinds.index("truth")), ("arg", kinds.index("number")), ONE)
            self.assertEqual(kind_of(thing, handed), "number")
            self.assertEqual(kind_of(thing, tuple(kinds)), "number")
            self.assertEqual(handed, kinds)
        self.assertEqual(kind_of(kinds=["truth"], thing=("not", ("arg", 0))), "truth")

    def test_at_most_eight_within_one_another(self):
        for word, signature in SIGNATURES.items():
            told = KINDS[sorted(signature.items())[-1][1]]
            for at in range(len(sorted(signature)[-1])):
                for deep in range(2, 14):
                    due = told if deep <= 8 else None
                    self.assertEqual(self.kind(nested(word, deep, at)), due, (word, deep, at))

    def test_numbers_and_truths_are_one_deep(self):
        for leaf, around in ((TWO, "plus"), (NO, "or")):
            thing = leaf
            for deep in range(2, 12):
                thing = (around, leaf, thing)
                due = None if deep > 8 else "number" if around == "plus" else "truth"
                self.assertEqual(self.kind(thing), due, deep)

    def test_chance_ones(self):
        chance = Random(1)
        for _ in range(400):
            kinds = [chance.choice(["number", "truth"]) for _ in range(chance.randint(0, 3))]
            kind = chance.choice(["number", "truth"])
            thing = any_expression(chance, kind, chance.randint(1, 8), kinds)
            self.assertEqual(kind_of(thing, kinds), kind, thing)


class Worths(unittest.TestCase):
    def test_args_numbers_and_truths(self):
        args = [(1, 2), True, (GREAT, 1), False]
        for at, worth in enumerate(args):
            self.assertEqual(worth_by(("arg", at), args), worth)
            self.assertEqual(worth_by(("arg", at), tuple(args)), worth)
        self.assertEqual(worth_by(("number", -3, 4), []), (-3, 4))
        self.assertIs(worth_by(("truth", True), []), True)
        self.assertIs(worth_by(("truth", False), ()), False)

    def test_each_operation(self):
        args = [(2, 3), (-3, 2), True, False]
        two = (("arg", 0), ("arg", 1))
        for word, due in (
            ("plus", (-5, 6)), ("minus", (13, 6)), ("times", (-1, 1)), ("over", (-4, 9)), ("least", (-3, 2)), ("most", (2, 3)),
            ("less", False), ("like", False),
        ):
            self.assertEqual(worth_by((word, *two), args), due, word)
        self.assertIs(worth_by(("less", two[1], two[0]), args), True)
        self.assertIs(worth_by(("less", two[0], two[0]), args), False)
        self.assertIs(worth_by(("like", two[0], ("number", 2, 3)), args), True)
        for one, other in product((True, False), repeat=2):
            parts = (("truth", one), ("truth", other))
            self.assertIs(worth_by(("and", *parts), []), one and other)
            self.assertIs(worth_by(("or", *parts), []), one or other)
            self.assertIs(worth_by(("like", *parts), []), one == other)
        self.assertIs(worth_by(("not", YES), []), False)
        self.assertIs(worth_by(("not", NO), []), True)
        self.assertEqual(worth_by(("if", ("arg", 2), ONE, TWO), args), (1, 1))
        self.assertEqual(worth_by(("if", ("arg", 3), ONE, TWO), args), (2, 1))
        self.assertIs(worth_by(("if", YES, NO, YES), args), False)

    def test_over_nought_in_each_place(self):
        self.assertIsNone(worth_by(FALL, []))
        self.assertIsNone(worth_by(("over", NOUGHT, NOUGHT), []))
        self.assertIsNone(worth_by(("over", ("arg", 0), ("arg", 1)), [(1, 1), (0, 1)]))
        self.assertEqual(worth_by(("over", NOUGHT, ONE), []), (0, 1))
        wrong = {"n": FALL, "t": ("less", FALL, ONE)}
        for word, signature in SIGNATURES.items():
            for kinds in signature:
                for at in range(len(kinds)):
                    if word == "if":
                        continue
                    for right in ({"n": ONE, "t": YES}, {"n": ONE, "t": NO}):
                        parts = [right[kind] for kind in kinds]
                        parts[at] = wrong[kinds[at]]
                        self.assertIsNone(worth_by((word, *parts), []), (word, parts))

    def test_of_an_if_one_side_alone(self):
        truth = ("less", FALL, ONE)
        for side, bad in ((ONE, FALL), (YES, truth)):
            due = worth_by(side, [])
            self.assertEqual(worth_by(("if", YES, side, bad), []), due)
            self.assertEqual(worth_by(("if", NO, bad, side), []), due)
            self.assertIsNone(worth_by(("if", NO, side, bad), []))
            self.assertIsNone(worth_by(("if", YES, bad, side), []))
            self.assertIsNone(worth_by(("if", truth, side, side), []))
            self.assertEqual(worth_by(("if", ("not", YES), bad, ("if", YES, side, bad)), []), due)

    def test_what_is_handed_in_is_not_changed(self):
        args = [(1, 2), True]
        self.assertEqual(worth_by(("if", ("arg", 1), ("arg", 0), ONE), args), (1, 2))
        self.assertEqual(args, [(1, 2), True])
        self.assertEqual(worth_by(args=args, expression=("arg", 0)), (1, 2))

    def test_chance_ones(self):
        chance = Random(2)
        for _ in range(1500):
            kinds = [chance.choice(["number", "truth"]) for _ in range(chance.randint(0, 3))]
            args = [any_worth(chance, kind) for kind in kinds]
            expression = any_expression(chance, chance.choice(["number", "truth"]), chance.randint(1, 6), kinds)
            try:
                due = worth_of(reckon(expression, args))
            except Nought:
                due = None
            told = worth_by(expression, args)
            self.assertEqual(told, due, (expression, args))
            self.assertIs(type(told), type(due))


class Done(unittest.TestCase):
    def test_operations_of_numbers(self):
        numbers = [(0, 1), (1, 1), (-1, 1), (1, 2), (-2, 3), (7, 1), (GREAT, 7), (-GREAT, 1)]
        for word in ("plus", "minus", "times", "over", "least", "most", "less", "like"):
            for one, other in product(numbers, repeat=2):
                try:
                    due = worth_of(reckon((word, ("arg", 0), ("arg", 1)), [one, other]))
                except Nought:
                    due = None
                worths = [one, other]
                told = done(word, worths)
                self.assertEqual(told, due, (word, one, other))
                self.assertIs(type(told), type(due))
                self.assertEqual(worths, [one, other])

    def test_operations_of_truths(self):
        for one, other in product((True, False), repeat=2):
            self.assertIs(done("and", [one, other]), one and other)
            self.assertIs(done("or", [one, other]), one or other)
            self.assertIs(done("like", [one, other]), one == other)
        self.assertIs(done("not", [True]), False)
        self.assertIs(done("not", [False]), True)

    def test_by_names(self):
        self.assertEqual(done(worths=[(1, 1), (2, 1)], word="minus"), (-1, 1))
        self.assertIsNone(done(worths=[(1, 1), (0, 1)], word="over"))


class Safe(unittest.TestCase):
    def test_leaves_and_operations_without_over(self):
        for expression in (("arg", 0), ONE, NOUGHT, YES, NO, ("plus", ONE, NOUGHT), ("not", ("less", NOUGHT, ("arg", 1)))):
            self.assertIs(is_safe(expression), True, expression)
        for word, signature in SIGNATURES.items():
            if word == "over":
                continue
            for kinds in signature:
                self.assertIs(is_safe((word, *[PARTS[kind] for kind in kinds])), True, word)

    def test_over_by_a_written_number(self):
        for by in (ONE, TWO, ("number", -1, 3), ("number", 1, GREAT), ("number", GREAT, 1)):
            self.assertIs(is_safe(("over", ("arg", 0), by)), True, by)
            self.assertIs(is_safe(("over", NOUGHT, by)), True, by)

    def test_over_by_a_written_nought(self):
        self.assertIs(is_safe(("over", ("arg", 0), NOUGHT)), False)

    def test_over_by_anything_else(self):
        for by in (("arg", 0), ("plus", ONE, ONE), ("over", ONE, ONE), ("if", YES, ONE, TWO), ("most", ONE, TWO)):
            self.assertIs(is_safe(("over", ONE, by)), False, by)

    def test_an_over_in_each_place(self):
        for word, signature in SIGNATURES.items():
            for kinds in signature:
                for at in range(len(kinds)):
                    for by, due in ((TWO, True), (NOUGHT, False), (("arg", 0), False)):
                        over = ("over", ONE, by)
                        parts = [PARTS[kind] for kind in kinds]
                        parts[at] = over if kinds[at] == "n" else ("less", ONE, over)
                        expression = (word, *parts)
                        own = word != "over"
                        self.assertIs(is_safe(expression), due and own, expression)
        within = ("over", ("over", ("arg", 0), TWO), TWO)
        self.assertIs(is_safe(within), True)
        self.assertIs(is_safe(("over", ("over", ("arg", 0), NOUGHT), TWO)), False)
        self.assertIs(is_safe(("over", ("over", ("arg", 0), ("arg", 0)), TWO)), False)

    def test_a_safe_one_never_faults(self):
        chance = Random(3)
        for _ in range(1500):
            kinds = ["number", "truth"]
            args = [any_worth(chance, kind) for kind in kinds]
            expression = any_expression(chance, chance.choice(["number", "truth"]), chance.randint(1, 5), kinds)
            if is_safe(expression):
                self.assertIsNotNone(worth_by(expression, args), expression)

    def test_by_name(self):
        self.assertIs(is_safe(expression=FALL), False)


if __name__ == "__main__":
    unittest.main()
