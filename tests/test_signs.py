import unittest
from random import Random

from everycell.errors import NoSigns, NoText
from everycell.signs import read, shown
from tests.things import SIGNATURES, THIRTY, any_text, many_things

N, M = (0, (("n", 1),)), (0, (("m", 1),))
ARG, OTHER, THIRD = ("arg", 0), ("arg", 1), ("arg", 2)
GREAT = 10 ** 30
INPUTS = (("a", "number", ()), ("b", "number", (N,)), ("c", "number", (N, M)), ("t", "truth", ()), ("u", "truth", (N,)))
INPUT_SIGNS = "input a number\ninput b number n\ninput c number n m\ninput t truth\ninput u truth n"
# Deeds beside how they are written.
DEEDS = (
    (("map", ARG, ("a",)), "map @0 of a"),
    (("map", ("plus", ARG, OTHER), ("b", "b")), "map plus @0 @1 of b b"),
    (("map", ("plus", ARG, ("times", ("number", 2, 1), OTHER)), ("c", "c")), "map plus @0 times 2 @1 of c c"),
    (("map", ("if", THIRD, ARG, OTHER), ("a", "a", "t")), "map if @2 @0 @1 of a a t"),
    (("map", ("number", -3, 7), ("a",)), "map -3/7 of a"),
    (("map", ("truth", True), ("a",)), "map yes of a"),
    (("map", ("or", ("truth", False), ("not", ("less", ARG, ("number", 0, 1)))), ("b",)), "map or no not less @0 0 of b"),
    (("count", (N,), 0), "count 0 of n"),
    (("count", (M, N, (5, ())), 2), "count 2 of m n 5"),
    (("spread", "a", 0, N), "spread a 0 n"),
    (("spread", "b", 1, (2, (("m", 3), ("n", 1)))), "spread b 1 2+3*m+n"),
    (("turn", "a", ()), "turn a -"),
    (("turn", "b", (0,)), "turn b 0"),
    (("turn", "c", (1, 0)), "turn c 1,0"),
    (("part", "c", 1, (0, ()), M), "part c 1 0 m"),
    (("part", "b", 0, (1, ()), (0, (("n", 2),))), "part b 0 1 2*n"),
    (("join", "c", "c", 1), "join c c 1"),
    (("fold", ("plus", ARG, OTHER), (0, 1), "b", 0), "fold plus @0 @1 from 0 of b 0"),
    (("fold", ("and", ARG, OTHER), True, "u", 0), "fold and @0 @1 from yes of u 0"),
    (("run", ("plus", ARG, OTHER), (-1, 2), "c", 1), "run plus @0 @1 from -1/2 of c 1"),
    (("run", ("and", ARG, OTHER), False, "u", 0), "run and @0 @1 from no of u 0"),
    (("where", "u", "b", "b"), "where u b b"),
    (("where", "t", "a", "a"), "where t a a"),
    (("pick", "c", "b"), "pick c b"),
    (("put", "b", "b", "b", None), "put b b b"),
    (("put", "u", "b", "u", ("or", ARG, OTHER)), "put u b u by or @0 @1"),
)
# Of a length, a number and a text what is written.
LENGTHS = (
    ((0, ()), "0"), ((1, ()), "1"), ((THIRTY, ()), "9" * 30), (N, "n"), ((0, (("n", 2),)), "2*n"), ((0, (("n", THIRTY),)), "9" * 30 + "*n"),
    ((3, (("n", 1),)), "3+n"), ((10, (("m", 1), ("n", 1))), "10+m+n"), ((0, (("a", 7), ("z", 10))), "7*a+10*z"),
    ((2, (("a", 1), ("b", 2), ("c", 1), ("d", 40))), "2+a+2*b+c+40*d"),
)
WORTHS = (
    ((0, 1), "0"), ((1, 1), "1"), ((-1, 1), "-1"), ((1, 2), "1/2"), ((-1, 2), "-1/2"), ((22, 7), "22/7"), ((10, 1), "10"), ((THIRTY, 1), "9" * 30),
    ((-THIRTY, 1), "-" + "9" * 30), ((THIRTY, THIRTY - 1), "9" * 30 + "/" + "9" * 29 + "8"), ((1, 10 ** 29), "1/1" + "0" * 29), (True, "yes"), (False, "no"),
)
# A length, a worth, a number from 0 on, and a name of no form.
NO_LENGTHS = (
    "", "+", "n+", "+n", "n++m", "1+", "-1", "-n", "-2*n", "n*2", "2n", "2*", "*n", "1*n", "0+n", "n+2", "1+2", "n+1", "2*3*n", "2*n*m", "2*nn", "nn", "n+nn",
    "N", "2*N", "01", "00", "01*n", "00+n", "1" * 31, "1" * 31 + "*n", "0" * 31, "n-m", "1/2", "@0", "1.0", "1e3", "n,m", "_", "2*-", "2*2", "yes*", "x1", "+1", "2**n", "-",
    "3+01*n", "n+0", "0+1*n",
)
NO_WORTHS = (
    "", "-", "+1", "--1", "-0", "-0/2", "01", "-01", "00", "1/", "/2", "/", "1/2/3", "1//2", "1/02", "01/2", "2/1", "0/1", "-2/1", "1/n", "n", "Yes", "NO", "true", "True", "1.5",
    "1" * 31, "-" + "1" * 31, "1/" + "1" * 31, "0" * 31, "@0", "1,2", "1-", "1 /2", "1+n", "1_0", "yesno", "y", "nope", "1/yes",
    "2/-4", "1/-2", "-1/-2", "1/-1", "-1/-1", "3/-0", "0/-2", "1/--2", "1/-", "1/+2", "1/-" + "1" * 30,
)
NO_FIGURES = ("", "-", "-1", "-0", "+1", "01", "00", "1/2", "n", "1,0", "yes", "@0", "1" * 31, "1_0", "1.", "a1")
NO_NAMES = ("", "A", "abcdefg", "a1", "a_b", "a,b", "-", "=", "0", "@0", "@", "b.", "+", "a;")


class Case(unittest.TestCase):
    def assert_no_signs(self, signs, row):
        with self.assertRaises(NoSigns, msg=repr(signs)[:200]) as caught:
            read(signs)
        self.assertEqual(caught.exception.row, row, repr(signs)[:200])
        self.assertIs(type(caught.exception.row), int)

    def assert_no_text(self, signs, part, number):
        with self.assertRaises(NoText, msg=repr(signs)[:200]) as caught:
            read(signs)
        self.assertEqual((caught.exception.part, caught.exception.number), (part, number), repr(signs)[:200])

    def assert_no_row(self, row):
        """A row behind the inputs, and behind another row, has no form."""
        self.assert_no_signs(f"{INPUT_SIGNS}\n{row}", 5)
        self.assert_no_signs(f"{INPUT_SIGNS}\nw = turn a -\n{row}\nv = turn a -", 6)

    def assert_just_no_deed(self, deed):
        """A row with a deed has the form, and is none."""
        self.assert_no_text(f"{INPUT_SIGNS}\nx = {deed}", "rows", 0)
        self.assert_no_text(f"{INPUT_SIGNS}\nw = turn a -\nx = {deed}\nv = turn a -", "rows", 1)

    def assert_written(self, text, signs):
        self.assertEqual(shown(text), signs)
        told = read(signs)
        self.assertEqual(told, text)
        # True and 1 are alike by ==, and not as they are shown.
        self.assertEqual(repr(told), repr(text))


class Written(Case):
    def test_the_text_of_nothing(self):
        self.assert_written(((), ()), "")

    def test_inputs(self):
        self.assert_written((INPUTS, ()), INPUT_SIGNS)
        self.assert_written(((("abcdef", "truth", (N, M, N)),), ()), "input abcdef truth n m n")

    def test_rows_without_inputs(self):
        self.assert_written(((), (("x", ("count", (N,), 0)), ("y", ("turn", "x", (0,))))), "x = count 0 of n\ny = turn x 0")

    def test_each_deed(self):
        for deed, signs in DEEDS:
            self.assert_written((INPUTS, (("x", deed),)), f"{INPUT_SIGNS}\nx = {signs}")

    def test_many_rows(self):
        rows = tuple((name, deed) for name, (deed, _) in zip("klmnopqrsvwx", DEEDS))
        signs = [f"{name} = {each}" for name, (_, each) in zip("klmnopqrsvwx", DEEDS)]
        self.assert_written((INPUTS, rows), "\n".join([INPUT_SIGNS] + signs))

    def test_lengths(self):
        for length, signs in LENGTHS:
            self.assert_written(((("a", "number", (length,)),), ()), f"input a number {signs}")
            self.assert_written(((), (("x", ("count", (length, (1, ())), 1)),)), f"x = count 1 of {signs} 1")
            self.assert_written((INPUTS[:1], (("x", ("spread", "a", 0, length)),)), f"input a number\nx = spread a 0 {signs}")
            self.assert_written(
                ((("b", "truth", ((1, ()),)),), (("x", ("part", "b", 0, length, (7, ()))),)), f"input b truth 1\nx = part b 0 {signs} 7")
            self.assert_written(
                ((("b", "truth", ((1, ()),)),), (("x", ("part", "b", 0, (7, ()), length)),)), f"input b truth 1\nx = part b 0 7 {signs}")

    def test_worths(self):
        for worth, signs in WORTHS:
            for word in ("fold", "run"):
                text = (INPUTS[1:2], (("x", (word, ARG, worth, "b", 0)),))
                self.assert_written(text, f"input b number n\nx = {word} @0 from {signs} of b 0")
            leaf = ("truth", worth) if isinstance(worth, bool) else ("number", *worth)
            text = (INPUTS[1:2], (("x", ("map", leaf, ("b",))), ("y", ("map", ("like", leaf, leaf), ("b",)))))
            self.assert_written(text, f"input b number n\nx = map {signs} of b\ny = map like {signs} {signs} of b")

    def test_each_operation(self):
        for word, signature in SIGNATURES.items():
            for kinds in signature:
                parts = [("number", 3, 1) if kind == "n" else ("truth", True) for kind in kinds]
                signs = " ".join([word] + ["3" if kind == "n" else "yes" for kind in kinds])
                self.assert_written((INPUTS[:1], (("x", ("map", (word, *parts), ("a",))),)), f"input a number\nx = map {signs} of a")

    def test_expressions_within_one_another(self):
        one = ("minus", ("over", ARG, ("number", 1, 2)), ("if", ("truth", False), OTHER, ("least", ARG, ("most", THIRD, ARG))))
        signs = "minus over @0 1/2 if no @1 least @0 most @2 @0"
        self.assert_written((INPUTS[:1], (("x", ("map", one, ("a", "a", "a"))),)), f"input a number\nx = map {signs} of a a a")

    def test_names_that_are_words(self):
        text = (
            (("input", "number", ((0, (("n", 1),)),)), ("of", "number", (N,)), ("from", "truth", (N,)), ("by", "number", (N,))),
            (("map", ("map", ("plus", ARG, OTHER), ("of", "by"))), ("plus", ("put", "of", "by", "input", ("plus", ARG, OTHER))),
             ("yes", ("fold", ("and", ARG, OTHER), True, "from", 0)), ("number", ("map", ARG, ("of", "of", "of"))), ("fold", ("join", "by", "of", 0)),
             ("no", ("where", "from", "by", "of")), ("put", ("put", "by", "by", "by", None)), ("n", ("run", OTHER, (1, 1), "of", 0))),
        )
        self.assert_written(text, "\n".join([
            "input input number n", "input of number n", "input from truth n", "input by number n", "map = map plus @0 @1 of of by",
            "plus = put of by input by plus @0 @1", "yes = fold and @0 @1 from yes of from 0", "number = map @0 of of of of", "fold = join by of 0",
            "no = where from by of", "put = put by by by", "n = run @1 from 1 of of 0"]))

    def test_a_row_called_input(self):
        self.assert_written((INPUTS[:1], (("input", ("turn", "a", ())),)), "input a number\ninput = turn a -")
        self.assert_written(((), (("input", ("count", (N,), 0)), ("x", ("turn", "input", (0,))))), "input = count 0 of n\nx = turn input 0")

    def test_numbers_of_more_than_thirty_figures_are_written_and_not_read(self):
        text = ((("a", "number", ((GREAT, (("n", GREAT),)),)),), ())
        self.assertEqual(shown(text), f"input a number {GREAT}+{GREAT}*n")
        self.assert_no_signs(shown(text), 0)
        text = (INPUTS[1:2], (("x", ("run", ("number", -GREAT, 7), (1, GREAT), "b", 0)),))
        self.assertEqual(shown(text), f"input b number n\nx = run -{GREAT}/7 from 1/{GREAT} of b 0")
        self.assert_no_signs(shown(text), 1)

    def test_by_names(self):
        self.assertEqual(shown(text=(INPUTS, ())), INPUT_SIGNS)
        self.assertEqual(read(signs=INPUT_SIGNS), (INPUTS, ()))

    def test_chance_texts(self):
        chance = Random(7)
        for _ in range(400):
            text, _ = any_text(chance)
            signs = shown(text)
            self.assertIs(type(signs), str)
            self.assert_written(text, signs)

    def test_no_text_is_not_written(self):
        for thing in many_things():
            with self.assertRaises(NoText) as caught:
                shown(thing)
            self.assertEqual((caught.exception.part, caught.exception.number), ("text", None))
        with self.assertRaises(NoText) as caught:
            shown((INPUTS, (("x", ("turn", "a", ())), ("y", ("turn", "z", ())))))
        self.assertEqual((caught.exception.part, caught.exception.number), ("rows", 1))


class NoForm(Case):
    def test_things_that_are_no_text(self):
        for thing in [each for each in many_things() if not isinstance(each, str)] + [b"", b"x = turn a -", ["input a number"], ((), ()), (), []]:
            self.assert_no_signs(thing, 0)

    def test_empty_rows(self):
        for signs, row in (
            ("\n", 0), ("\n\n", 0), (INPUT_SIGNS + "\n", 5), (INPUT_SIGNS + "\n\n", 5), ("\n" + INPUT_SIGNS, 0), ("input a number\n\ninput b number n", 1),
            ("input a number\nx = turn a -\n", 2), ("input a number\nx = turn a -\n\ny = turn a -", 2), ("x = count 0 of n\n", 1),
        ):
            self.assert_no_signs(signs, row)

    def test_blanks(self):
        for row in ("x = turn a -", "x = map plus @0 1 of a", "x = count 0 of n", "x = put b b b by plus @0 @1", "x = fold @0 from 0 of b 0"):
            words = row.split(" ")
            self.assertEqual(len(read(f"{INPUT_SIGNS}\n{row}")[1]), 1)
            self.assert_no_row(" " + row)
            self.assert_no_row(row + " ")
            for at in range(1, len(words)):
                self.assert_no_row(" ".join(words[:at]) + "  " + " ".join(words[at:]))
                self.assert_no_row(" ".join(words[:at]) + "\t" + " ".join(words[at:]))
        for signs in (" input a number", "input a number ", "input  a number", "input a  number", "input a number  n", "input a number n ", "input\ta number", " ", "  ", "\t"):
            self.assert_no_signs(signs, 0)

    def test_inputs(self):
        for signs in (
            "input", "input a", "input number", "input a Number", "input a numbers", "input a worth", "input a n", "Input a number", "inputs a number", "input a number,n",
            "input a b number", "a number", "input a truth number n -", "a", "n", "input a = number", "input a number of n",
        ):
            self.assert_no_signs(signs, 0)
        for name in NO_NAMES:
            if name != "=":
                self.assert_no_signs(f"input {name} number", 0)
        for length in NO_LENGTHS:
            self.assert_no_signs(f"input a number {length}", 0)
            self.assert_no_signs(f"input z truth\ninput a number n {length} n", 1)

    def test_an_input_behind_a_row(self):
        self.assert_no_signs("x = count 0 of n\ninput a number", 1)
        self.assert_no_signs("input a number\nx = turn a -\ny = turn a -\ninput b number n\nz = what", 3)
        self.assert_no_signs("input a number\nx = turn a -\nwhat\ninput b number n", 2)

    def test_names_and_words_are_such_by_themselves(self):
        for name in NO_NAMES:
            for row in (
                "{} = turn a -", "x = turn {} -", "x = map @0 of {}", "x = map @0 of a {}", "x = map @0 of {} a", "x = spread {} 0 n", "x = part {} 0 0 n",
                "x = join {} b 0", "x = join b {} 0", "x = fold @0 from 0 of {} 0", "x = run @0 from 0 of {} 0", "x = where {} a a", "x = where t {} a",
                "x = where t a {}", "x = pick {} b", "x = pick b {}", "x = put {} b b", "x = put b {} b", "x = put b b {}", "x = put b b {} by @0",
            ):
                self.assert_no_row(row.format(name))
        for row in (
            "x", "x =", "= turn a -", "x turn a -", "x == turn a -", "x=turn a -", "x = what a", "x = Turn a -", "x = turns a -", "x = = turn a -", "x = x", "x = input a number",
            "x = y = turn a -", "x : turn a -", "x = read a", "x = if t a a", "x = plus a a", "x = number", "x = a", "x y = turn a -", "x = turn = a -", "x = 0",
        ):
            self.assert_no_row(row)

    def test_too_few_and_too_many_words(self):
        for deed, signs in DEEDS:
            words = signs.split(" ")
            for many in range(1, len(words)):
                cut = " ".join(words[:many])
                if not self.has_own_form(words, many):
                    self.assert_no_row(f"x = {cut}")
            if words[0] not in ("map", "count"):
                for more in ("a", "0", "n", "-", "of", "by", "@0"):
                    self.assert_no_row(f"x = {signs} {more}")
                    self.assert_no_row(f"x = {signs} {more} {more} {more}")

    def has_own_form(self, words, many):
        """Whether a deed's first words have a form, too: where as many as there are may stand, or none, or a put ends."""
        if words[0] in ("map", "count"):
            return "of" in words[:many]
        return words[0] == "put" and many == 4

    def test_words_between(self):
        for row in (
            "map @0 a", "map @0 from a", "map of a", "map", "map @0", "map @0 @1 of a", "map @0 of of @0 of a", "map @0 of a of 0", "count of n", "count 0 n", "count 0 from n", "count n of n", "count 0 1 of n",
            "fold @0 from 0 b 0", "fold @0 of b 0", "fold @0 of 0 from b 0", "fold from 0 of b 0", "fold @0 from of b 0", "fold @0 from 0 of b", "fold @0 from 0 of 0",
            "fold @0 from 0 from 0 of b 0", "fold @0 of 0 of b 0", "fold @0 by 0 of b 0", "run @0 of 0 of b 0", "run @0 @0 0 of b 0", "fold @0 from 0 by b 0", "fold 0 of b 0", "run @0 of b 0 from 0", "put b b b plus @0 @1", "put b b b of @0", "put b b b by", "put b b b by by @0", "put b b by @0", "put b b b b",
            "put b b b by @0 @1", "where t a", "where t a a a", "join b b", "join b 0", "pick b", "pick b b b", "turn a", "turn a 0 1", "spread a n", "part b 0 n",
        ):
            self.assert_no_row(f"x = {row}")

    def test_numbers_of_axes(self):
        for word in NO_FIGURES:
            for row in (
                "spread a {} n", "part b {} 0 n", "join b b {}", "fold @0 from 0 of b {}", "run @0 from 0 of b {}", "count {} of n", "turn c {},1", "turn c 1,{}", "turn c 0,{},1",
            ):
                if word != "1,0" or not row.startswith("turn"):
                    self.assert_no_row("x = " + row.format(word))
        for order in ("", ",", "1,", ",1", "1,,0", "-,0", "--", "1;0", "-1", "01", "n", "()", "0-1", "1.0"):
            self.assert_no_row(f"x = turn c {order}")

    def test_lengths(self):
        for word in NO_LENGTHS:
            for row in ("spread a 0 {}", "part b 0 {} n", "part b 0 n {}", "count 0 of {}", "count 0 of n {}", "count 0 of {} n"):
                self.assert_no_row("x = " + row.format(word))

    def test_worths(self):
        for word in NO_WORTHS:
            for row in ("fold @0 from {} of b 0", "run @0 from {} of b 0"):
                self.assert_no_row("x = " + row.format(word))
            if word != "@0":
                for row in ("map {} of b", "map plus {} @0 of b", "map plus @0 {} of b", "put b b b by {}", "fold {} from 0 of b 0", "run not {} from 0 of b 0"):
                    self.assert_no_row("x = " + row.format(word))

    def test_expressions(self):
        for words in (
            "", "@", "@n", "@01", "@00", "@0/2", "@ 0", "@@0", "0@", "@0,1", "@+1", "@yes", "@" + "1" * 31, "plus", "plus @0", "plus @0 @0 @0", "@0 plus @0", "@0 @0", "not", "not @0 @0", "if @0 @0",
            "if @0 @0 @0 @0", "Plus @0 @0", "add @0 @0", "plus(@0 @0)", "a", "n", "plus @0 a", "plus times @0 @0", "plus plus plus @0 @0 @0", "yes no", "1 2", "arg 0", "number 1", "@0 from 0", "by @0", "less yes", "2*n", "n+1",
            "not not", "not not not", "if yes", "plus @0 @0 plus", "@0 not", "@-1", "@-2", "@-0", "@-", "@--1", "plus @0 @-2", "plus @-1 @0", "-@1", "@-" + "1" * 30,
        ):
            for row in ("map {} of b", "fold {} from 0 of b 0", "run {} from 0 of b 0", "put b b b by {}"):
                self.assert_no_row("x = " + row.format(words))

    def test_the_first_of_two_is_told(self):
        self.assert_no_signs("input a number\nwhat\nx = what", 1)
        self.assert_no_signs("input a number\nx = turn a -\nx = turn a\n\n", 2)
        self.assert_no_signs("what\nwhat", 0)

    def test_no_form_goes_ahead_of_no_text(self):
        self.assert_no_signs("input a number\ninput a number\nx = turn z -\ny = what", 3)
        self.assert_no_signs("\n".join("input a number" for _ in range(9)) + "\n", 9)
        self.assert_no_signs("x = map 2/4 of a\nx = turn a 01", 1)


class FormAlone(Case):
    def test_lengths_that_have_the_form_and_are_none(self):
        for length in ("n+n", "0*n", "n+m", "0*n+m", "m+0*n", "3+n+n", "n+2*n", "2*n+m", "7+0*n", "n+m+k"):
            self.assert_no_text(f"input a number {length}", "inputs", 0)
            self.assert_no_text(f"input a number n\ninput b truth m {length}", "inputs", 1)
            for row in ("spread a 0 {}", "part b 0 {} n", "part b 0 n {}", "count 0 of {}", "count 0 of n {}"):
                self.assert_just_no_deed(row.format(length))

    def test_numbers_that_have_the_form_and_are_none(self):
        for number in ("2/4", "3/0", "0/2", "0/0", "-2/4", "-3/0", "6/3", "10/5"):
            for row in ("map {} of b", "map plus @0 {} of b", "fold @0 from {} of b 0", "run {} from 0 of b 0", "put b b b by {}"):
                self.assert_just_no_deed(row.format(number))

    def test_args_that_have_the_form_and_are_none(self):
        for arg in ("@1", "@3", "@10", "@" + "9" * 30):
            self.assert_just_no_deed(f"map {arg} of b")
            self.assert_just_no_deed(f"map plus @0 {arg} of b")
        for row in ("fold @2 from 0 of b 0", "run plus @0 @7 from 0 of b 0", "put b b b by @2"):
            self.assert_just_no_deed(row)

    def test_as_many_as_there_are_none_among_them(self):
        for row in ("map @0 of", "map 1 of", "map 1 of a a a a", "map 1 of b b b b b b", "count 0 of", "count 0 of n n n n", "count 3 of 1 2 3 4 5"):
            self.assert_just_no_deed(row)
        self.assert_no_text("input a number n n n n", "inputs", 0)
        self.assert_no_text("input a number\ninput b truth 1 2 3 4 5", "inputs", 1)

    def test_deeds_that_have_the_form_and_are_none(self):
        for row in (
            "turn z -", "turn x -", "turn a 0", "turn b -", "turn c 0,0", "turn c 0,1,2", "turn c 7,9", "spread a 1 n", "spread a 30 n", "part b 1 0 n", "part a 0 0 n", "join b c 0", "join b u 0",
            "join b b 1", "count 1 of n", "count " + "9" * 30 + " of n", "map @0 of z", "map plus @0 @1 of a b", "map not @0 of a", "map less @0 yes of a", "fold plus @0 @1 from yes of b 0",
            "fold @0 from 0 of a 0", "run @0 from 0 of b 1", "where b b b", "where t b b", "where u b u", "pick a b", "pick b u", "put a a a", "put b u b", "put b b u", "put b b b by less @0 @1",
            "put c b c",
        ):
            self.assert_just_no_deed(row)

    def test_names_that_stood_ahead(self):
        self.assert_no_text("input a number\ninput b truth\ninput a truth", "inputs", 2)
        self.assert_no_text("input a number\nx = turn a -\nx = turn a -", "rows", 1)
        self.assert_no_text("input a number\na = turn a -", "rows", 0)

    def test_too_many(self):
        inputs = [f"input {name} number" for name in "abcdefg"]
        self.assertEqual(len(read("\n".join(inputs[:6]))[0]), 6)
        self.assert_no_text("\n".join(inputs), "text", None)
        rows = [f"{name} = count 0 of n" for name in "abcdefghijklm"]
        self.assertEqual(len(read("\n".join(rows[:12]))[1]), 12)
        self.assert_no_text("\n".join(rows), "text", None)
        self.assert_no_text("\n".join(["input z number n n n n"] + rows), "text", None)
        self.assert_no_text("input a number k l m\ninput b number n o", "letters", None)
        self.assert_no_text("input a number k l\nx = count 0 of m n\ny = spread a 0 o", "letters", None)

    def test_however_deep_an_expression_is(self):
        for deep in (8, 9, 10, 40, 400, 2400):
            for words in (["not"] * (deep - 1) + ["@0"], ["and"] * (deep - 1) + ["@0"] * deep, ["or", "@0"] * (deep - 1) + ["yes"]):
                signs = f"input t truth\nx = map {' '.join(words)} of t"
                if len(signs) > 10000:
                    continue
                if deep > 8:
                    self.assert_no_text(signs, "rows", 0)
                else:
                    self.assertEqual(shown(read(signs)), signs)
        self.assert_no_row(f"x = map {'not ' * 2400}of t")
        self.assert_no_row(f"x = map {'plus ' * 900}{'@0 ' * 900}of b")


if __name__ == "__main__":
    unittest.main()
