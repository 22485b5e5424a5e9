import unittest
from random import Random

from everycell.desk import Desk
from everycell.errors import Bare, Faulty, NoCell, NoFit, NoInputs, NoLanes, NoLengths, NoName, NoRow, NoSigns, NoText, NoWorth, TooMany
from everycell.house import House
from everycell.machine import Machine
from everycell.programs import plain_program
from everycell.signs import read, shown
from everycell.whence import near, through, whither
from tests.things import any_fitting, any_inputs, any_lengths, any_worth, many_things, refused, shown_cell, shown_cells, shown_worth

SIGNS = "input a number n; input t truth n; input s number; d = map over 1 @0 of a; w = where t d a; f = fold plus @0 @1 from 0 of w 0; g = spread w 0 2; c = count 0 of m"
BEGIN = "begin x m=2,n=3 a=1,0,4;t=no,no,yes;s=-1/2"
ALL = SIGNS.replace("; ", "\n")


def desk(*rows):
    made = Desk()
    for row in rows:
        made.say(row)
    return made


def begun():
    return desk(f"text x {SIGNS}", BEGIN)


class Answers(unittest.TestCase):
    def assert_says(self, made, *pairs):
        for row, answer in pairs:
            found = made.say(row)
            self.assertIsInstance(found, str)
            self.assertEqual(found, answer, row)

    def test_texts_kept(self):
        self.assert_says(
            Desk(), ("names", "-"), ("text zz input a number n", "ok"), ("names", "zz"), ("text a ", "ok"), ("text of of = count 0 of n; x = part of 0 1 n", "ok"), ("names", "a of zz"),
            ("show zz", "input a number n"), ("show a", "-"), ("show of", "of = count 0 of n; x = part of 0 1 n"), ("fits zz", "yes"), ("fits a", "yes"), ("fits of", "no"), ("drop zz", "ok"), ("names", "a of"),
            ("text of x = count 0 of n", "ok"), ("show of", "x = count 0 of n"), ("fits of", "yes"), ("drop a", "ok"), ("drop of", "ok"), ("names", "-"),
        )

    def test_signs_as_they_stand(self):
        self.assert_says(Desk(), ("text a input a number", "ok"), ("text names names = count 0 of 2", "ok"), ("show names", "names = count 0 of 2"), ("names", "a names"))
        for signs, row in (
            (" ", 0), ("-", 0), (" x = count 0 of n", 0), ("x = count 0 of n ", 0), ("x =  count 0 of n", 0), ("x = count 0 of n;", 0), ("x = count 0 of n; ", 1), ("; x = count 0 of n", 0), ("x = count 0 of n;y = count 0 of n", 0),
            ("x = count 0 of n;  y = count 0 of n", 1), ("x = count 0 of n; ; y = count 0 of n", 1), ("x = count 0 of n; input a number", 1), ("; ", 0), ("\t", 0), ("x = count 0 of n\t", 0), ("x\r= count 0 of n", 0),
        ):
            made = desk("text b x = count 0 of 1", "begin b - -")
            self.assertEqual(refused(self, NoSigns, lambda: made.say(f"text b {signs}")).row, row, signs)
            self.assertEqual(refused(self, NoSigns, lambda: made.say(f"turn b {signs}")).row, row, signs)
            self.assertEqual(refused(self, NoSigns, lambda: made.say(f"text new {signs}")).row, row, signs)
            self.assert_says(made, ("names", "b"), ("show b", "x = count 0 of 1"), ("made b", "1"))
        for signs, part, number in (("x = map @0 of a", "rows", 0), ("input a number; input a number", "inputs", 1), ("x = count 0 of k m; y = count 0 of n o; z = count 0 of p", "letters", None)):
            found = refused(self, NoText, lambda: desk(f"text a {signs}"))
            self.assertEqual((found.part, found.number), (part, number))

    def test_cells_and_arrays(self):
        self.assert_says(
            begun(), ("cell x a 2", "4"), ("cell x a 1", "0"), ("cell x t 2", "yes"), ("cell x t 0", "no"), ("cell x s -", "-1/2"), ("cell x d 1", "fault"), ("cell x d 2", "1/4"), ("cell x w 1", "0"), ("cell x f -", "5/4"),
            ("cell x g 1,2", "1/4"), ("array x a", "1,0,4"), ("array x t", "no,no,yes"), ("array x s", "-1/2"), ("array x d", "1,?,1/4"), ("array x g", "1,0,1/4,1,0,1/4"), ("array x c", "0,1"), ("fault x", "d 1 nought"),
            ("made x", "15"),
        )
        made = begun()
        self.assert_says(
            made, ("change x t 1 to yes", "w:1 f:- g:0,1 g:1,1"), ("cell x w 1", "lost"), ("cell x f -", "lost"), ("cell x g 0,1", "lost"), ("array x w", "1,?,1/4"), ("array x f", "?"), ("array x g", "1,?,1/4,1,?,1/4"), ("made x", "19"),
            ("fault x", "d 1 nought"), ("change x a 1 to 5", "d:1 w:1 f:- g:0,1 g:1,1"), ("array x d", "1,1/5,1/4"), ("fault x", "-"), ("cell x a 1", "5"), ("made x", "24"),
        )

    def test_no_cells_and_no_axes(self):
        made = desk(f"text x {SIGNS}", "begin x m=0,n=0 a=;t=;s=0")
        self.assert_says(made, ("array x a", "-"), ("array x g", "-"), ("array x c", "-"), ("array x f", "0"), ("cell x f -", "0"), ("fault x", "-"), ("made x", "1"), ("near x f -", "-"), ("near x s -", "-"), ("through x s -", "s:-"), ("whither x s -", "-"), ("change x s - to 2/3", "-"))
        made = desk("text e input s number; x = map over 1 @0 of s", "begin e - s=0")
        self.assert_says(made, ("fault e", "x - nought"), ("array e x", "?"), ("whither e s -", "x:-"), ("made e", "1"))

    def test_near_through_whither(self):
        self.assert_says(
            begun(), ("near x f -", "w:0 w:1 w:2"), ("near x w 1", "t:1 a:1"), ("near x d 1", "a:1"), ("near x g 1,0", "w:0"), ("near x c 0", "-"), ("near x a 0", "-"), ("through x w 2", "a:2 t:2"), ("through x g 1,1", "a:1 t:1"),
            ("through x c 1", "-"), ("through x a 1", "a:1"), ("whither x a 1", "d:1 w:1 f:- g:0,1 g:1,1"), ("whither x t 0", "w:0 f:- g:0,0 g:1,0"), ("whither x s -", "-"),
        )

    def test_a_house_turned_and_taken_back(self):
        made = begun()
        other = SIGNS.replace("d = map over 1 @0 of a", "d = map over 2 @0 of a")
        self.assert_says(
            made, (f"turn x {other}", "d w f g"), ("show x", other), ("made x", "28"), (f"turn x {SIGNS}", "d w f g"), (f"turn x {SIGNS}", "-"), ("back x", "ok"), ("show x", SIGNS), ("back x", "ok"), ("show x", other), ("cell x d 0", "2"),
            ("change x a 0 to 8", "d:0 w:0 f:- g:0,0 g:1,0"), ("back x", "ok"), ("show x", other), ("cell x a 0", "1"), ("back x", "ok"), ("show x", SIGNS), ("array x d", "1,?,1/4"), ("made x", "46"),
        )
        refused(self, Bare, lambda: made.say("back x"))
        self.assert_says(made, (f"turn x {other}; z = count 0 of n", "d w f g z"), ("cell x z 2", "2"), ("fits x", "yes"))

    def test_turned_to_nothing(self):
        made = desk("text e x = count 0 of 2", "begin e - -")
        self.assert_says(made, ("turn e ", "-"), ("show e", "-"), ("fault e", "-"), ("made e", "2"), ("turn e ", "-"), ("turn e y = count 0 of 1; x = count 0 of 2", "y x"), ("back e", "ok"), ("show e", "-"))
        self.assertEqual(refused(self, NoName, lambda: made.say("array e x")).name, "x")

    def test_houses_replaced_and_dropped(self):
        made = begun()
        self.assert_says(made, ("change x a 0 to 2", "d:0 w:0 f:- g:0,0 g:1,0"), (BEGIN, "ok"), ("cell x a 0", "1"), ("made x", "15"))
        refused(self, Bare, lambda: made.say("back x"))
        self.assert_says(made, ("begin x n=1,m=0 s=3;t=yes;a=5", "ok"), ("array x g", "1/5,1/5"), (f"text x {SIGNS}", "ok"))
        refused(self, Bare, lambda: made.say("cell x a 0"))
        self.assert_says(made, (BEGIN, "ok"), ("drop x", "ok"), ("names", "-"))
        refused(self, NoName, lambda: made.say("cell x a 0"))
        self.assert_says(made, (f"text x {SIGNS}", "ok"))
        refused(self, Bare, lambda: made.say("made x"))

    def test_houses_by_themselves(self):
        made = begun()
        self.assert_says(made, (f"text y {SIGNS}", "ok"), (BEGIN.replace("begin x", "begin y"), "ok"), ("change x a 0 to 7", "d:0 w:0 f:- g:0,0 g:1,0"), ("cell y a 0", "1"), ("drop y", "ok"), ("cell x a 0", "7"))
        other = begun()
        self.assert_says(other, ("cell x a 0", "1"))

    def test_run(self):
        made = begun()
        text, house = read(ALL), House(read(ALL), {"m": 2, "n": 3}, HANDED)
        for lanes, block, within in ((1, 4, 4), (8, 1, 1), (3, 64, 64), (2, 2, 1)):
            machine = Machine(text, plain_program(text), {"m": 2, "n": 3}, HANDED, lanes=lanes, block=block, within=within)
            machine.run()
            self.assert_says(made, (f"run x {lanes} {block} {within}", " ".join(map(str, machine.counts()))))
        self.assertEqual(machine.counts()[:3], (15, 15, 0))
        self.assert_says(made, ("made x", "15"), ("fault x", "d 1 nought"), ("change x a 1 to 1", "d:1 w:1 f:- g:0,1 g:1,1"))
        self.assertEqual(house.made(), 15)

    def test_great_worths_are_written(self):
        made = desk("text x input a number; y = map times @0 @0 of a", f"begin x - a={9 * 10 ** 29}")
        self.assert_says(made, ("cell x y -", str(81 * 10 ** 58)), (f"change x a - to {-10 ** 29}", "y:-"), ("cell x y -", str(10 ** 58)))


HANDED = {"a": {(0,): (1, 1), (1,): (0, 1), (2,): (4, 1)}, "t": {(0,): False, (1,): False, (2,): True}, "s": {(): (-1, 2)}}
# Of each row one that is right, whose words may be exchanged for others.
ROWS = (
    f"text x {SIGNS}", "show x", "fits x", "drop x", "names", BEGIN, "cell x a 0", "array x a", "near x d 0", "through x d 0", "whither x a 0", "change x a 0 to 1", f"turn x {SIGNS}", "back x", "made x", "fault x", "run x 1 4 4",
)


class NoRows(unittest.TestCase):
    def assert_no_row(self, made, row):
        refused(self, NoRow, lambda: made.say(row))

    def test_each_is_a_row(self):
        for row in ROWS:
            made = begun()
            made.say("change x a 0 to 3")
            made.say(row=row)

    def test_no_text(self):
        for thing in [thing for thing in many_things() if not isinstance(thing, str)] + [b"names", ["names"], ("names",)]:
            self.assert_no_row(Desk(), thing)

    def test_other_words(self):
        for row in ("", " ", "-", "name", "Names", "names ", " names", "names x", "names  ", "\tnames", "names\t", "texts a b", "shows x", "cells", "to", "?", "quit", "none", "begin", "change", "run"):
            self.assert_no_row(begun(), row)

    def test_words_too_few_or_too_many_and_blanks_and_line_feeds(self):
        for row in ROWS:
            is_signs = row.startswith(("text", "turn"))
            words = row.split(" ")
            for at in range(len(words)):
                if at < 2 or not is_signs:
                    fewer = " ".join(words[:at] + words[at + 1:])
                    if not is_signs:
                        self.assert_no_row(begun(), fewer)
                    self.assert_no_row(begun(), " ".join(words[:at] + ["", ""] + words[at + 1:]))
                    self.assert_no_row(begun(), " ".join(words[:at] + [""] + words[at:]))
            if not is_signs:
                self.assert_no_row(begun(), row + " ")
                self.assert_no_row(begun(), row + " x")
                self.assert_no_row(begun(), row + " 1")
            self.assert_no_row(begun(), " " + row)
            self.assert_no_row(begun(), row + "\n")
            self.assert_no_row(begun(), "\n" + row)
            if "; " in row:
                self.assert_no_row(begun(), row.replace("; ", "\n"))
        for row in ("text", "text ", "text a", "turn", "turn ", "turn x", "text  ", "text  a", "text A x", "text A ", "turn toolong ", "text\ta b", "text a\tb", "text a\n"):
            self.assert_no_row(begun(), row)

    def test_names_that_are_none(self):
        for name in ("A", "a1", "abcdefg", "-", "a-b", "a:0", "", "1", "?", "a,b"):
            for row in ROWS:
                words = row.split(" ")
                if len(words) > 1:
                    self.assert_no_row(begun(), " ".join([words[0], name, *words[2:]]))
                if words[0] in ("cell", "array", "near", "through", "whither", "change"):
                    self.assert_no_row(begun(), " ".join([*words[:2], name, *words[3:]]))
                    self.assert_no_row(Desk(), " ".join([*words[:2], name, *words[3:]]))

    def test_cells_that_are_none(self):
        for cell in ("", "--", "-1", "01", "00", "1,", ",1", "1,,2", "1;2", "+1", "1.0", "a", "0,-", "-,0", "1, 2", "(0)", "1,01", "1/2", "9" * 31, "0," + "9" * 31, "1,-2", "\t1", "yes", "\u0661"):
            for row in ("cell x a", "near x a", "through x a", "whither x a", "cell q q"):
                self.assert_no_row(begun(), f"{row} {cell}")
            self.assert_no_row(begun(), f"change x a {cell} to 1")

    def test_lanes_block_and_within(self):
        for number in ("", "-", "-1", "01", "+1", "1.0", "a", "1,2", "1/2", "9" * 31, "yes"):
            for at in range(3):
                numbers = ["1", "4", "4"]
                numbers[at] = number
                self.assert_no_row(begun(), "run x " + " ".join(numbers))
                self.assert_no_row(Desk(), "run x " + " ".join(numbers))

    def test_worths_that_are_none(self):
        for worth in ("", "-", "2/4", "3/0", "0/1", "2/1", "1/1", "-0", "01", "1/01", "-01", "1/-2", "--1", "+1", "1.5", "Yes", "true", "True", "no,", "1,2", "?", "9" * 31, "1/" + "9" * 31, "-" + "9" * 31, "/2", "1/", "0/2", "-2/4", "1 2", "@0"):
            self.assert_no_row(begun(), f"change x a 0 to {worth}")
            self.assert_no_row(Desk(), f"change x a 0 to {worth}")
            if worth not in ("", "1,2"):
                self.assert_no_row(begun(), f"begin x m=2,n=3 a=1,{worth},4;t=no,no,yes;s=1")
                self.assert_no_row(begun(), f"begin x - a={worth}")
        for word in ("too", "of", "To", "=", "-"):
            self.assert_no_row(begun(), f"change x a 0 {word} 1")

    def test_lengths_that_are_none(self):
        for lengths in (
            "", "n", "=3", "n=", "n=3,", ",n=3", "n=3,,m=2", "n=3;m=2", "nn=3", "N=3", "1=3", "n=-1", "n=03", "n=3=3", "n=a", "n=3,n=3", "n=3,m=2,n=4", "n=1/2", "n=yes", "-,n=3", "n=3,-", "n=" + "9" * 31, "--", "n=-", "n:3", "n= 3",
        ):
            self.assert_no_row(begun(), f"begin x {lengths} a=1,0,4;t=no,no,yes;s=1")
            self.assert_no_row(Desk(), f"begin x {lengths} -")

    def test_inputs_that_are_none(self):
        for inputs in (
            "", "a", "=1", "a=1;", ";a=1", "a=1;;t=yes", "a=1,", "a=,1", "a=1,,2", "a=,", "a=1;a=1", "a=;t=yes;a=", "A=1", "toolong=1", "a1=1", "-=1", "-;a=1", "a=1;-", "a=1=2", "a==", "a=-", "--", "a=1;t", "a=1,t=2", "a=1:2", ";",
        ):
            self.assert_no_row(begun(), f"begin x m=2,n=3 {inputs}")
            self.assert_no_row(Desk(), f"begin x - {inputs}")

    def test_behind_a_refused_row_all_is_as_ahead(self):
        made = begun()
        made.say("change x a 0 to 3")
        for row in ("cell x a", "cell x q 0", "cell x a 9", "cell q a 0", "change x a 0 to 2/4", "change x a 0 to yes", "change x d 0 to 1", "change x a 7 to 1", "turn x -", "turn x input a number n", "text x -", "begin x - -", "begin x n=1,m=2 -",
                    "begin x m=2,n=41 a=1;t=no;s=1", "run x 9 1 1", "run x 1 0 1", "text y x = map @0 of a", "show q", "drop q", f"turn x {SIGNS}; z = part a 0 n n", f"turn x {SIGNS.replace('of m', 'of k')}"):
            refused(self, (NoRow, NoName, NoCell, NoWorth, NoSigns, NoText, NoLengths, NoInputs, NoFit, NoLanes), lambda: made.say(row))
            self.assertEqual([made.say(each) for each in ("names", "show x", "array x a", "array x g", "made x", "fault x")], ["x", SIGNS, "3,0,4", "3,0,1/4,3,0,1/4", "20", "d 1 nought"], row)
        made.say("back x")
        refused(self, Bare, lambda: made.say("back x"))


class Refused(unittest.TestCase):
    def test_a_name_by_which_nothing_is_kept(self):
        for row in ROWS:
            words = row.split(" ")
            if words[0] not in ("text", "names"):
                for made in (Desk(), desk("text y "), desk(f"text x {SIGNS}", "drop x")):
                    self.assertEqual(refused(self, NoName, lambda: made.say(row)).name, "x")
        for row in ("turn x -", "turn x x = map @0 of a", "cell x q 9", "begin x q=99 q=1", "run x 0 0 0"):
            self.assertEqual(refused(self, NoName, lambda: Desk().say(row)).name, "x")
        self.assertEqual(Desk().say(f"text x {SIGNS}"), "ok")

    def test_what_wants_a_house(self):
        for row in ROWS:
            words = row.split(" ")
            made = desk(f"text x {SIGNS}")
            if words[0] in ("text", "names", "show", "fits", "drop", "begin"):
                made.say(row)
            else:
                refused(self, Bare, lambda: made.say(row))
        for row in ("turn x -", "turn x x = map @0 of a", "cell x q 9", "array x q", "change x d 9 to yes", "run x 0 0 0", "whither x d 0"):
            refused(self, Bare, lambda: desk(f"text x {SIGNS}").say(row))

    def test_as_the_points_tell(self):
        made = begun()
        for row in ("cell x q 9", "near x q 9", "through x q 9", "whither x q 9", "whither x d 9", "change x q 9 to 1", "change x d 0 to 1", "array x q"):
            self.assertEqual(refused(self, NoName, lambda: made.say(row)).name, row.split(" ")[2])
        for row, cell in (("cell x a 3", (3,)), ("cell x a -", ()), ("near x d 0,0", (0, 0)), ("through x d 9", (9,)), ("whither x a 3", (3,)), ("change x a 3 to yes", (3,)), ("cell x s 0", (0,)), ("cell x g 2,0", (2, 0)), ("cell x a 9" + "9" * 29, (10 ** 30 - 1,)),
                          ("cell x a 0,0,0,0", (0, 0, 0, 0))):
            found = refused(self, NoCell, lambda: made.say(row))
            self.assertEqual((found.name, found.cell), (row.split(" ")[2], cell))
        for row in ("change x a 0 to yes", "change x t 0 to 1", "change x s - to no"):
            refused(self, NoWorth, lambda: made.say(row))
        for row, what in (("run x 0 0 0", "lanes"), ("run x 9 4 4", "lanes"), ("run x 1 0 0", "block"), ("run x 1 65 4", "block"), ("run x 1 4 0", "within"), ("run x 8 64 65", "within")):
            self.assertEqual(refused(self, NoLanes, lambda: made.say(row)).what, what)

    def test_of_turn(self):
        made = begun()
        for signs, error in (("-", NoSigns), ("x = map @0 of q", NoText), ("input a number n", NoInputs), (SIGNS.replace("of m", "of k"), NoLengths), (f"{SIGNS}; z = part a 0 n 0", None), (f"{SIGNS}; z = part a 0 1 n", NoFit)):
            if error is None:
                self.assertEqual(made.say(f"turn x {signs}"), "z")
            else:
                refused(self, error, lambda: made.say(f"turn x {signs}"))
        self.assertEqual(refused(self, NoFit, lambda: made.say(f"turn x {SIGNS}; z = part a 0 1 n")).row, 5)

    def test_of_begin(self):
        made = desk(f"text x {SIGNS}", "text u input a number n; y = part a 0 0 1; z = part a 0 0 n")
        self.assertEqual(refused(self, NoFit, lambda: made.say("begin u - -")).row, 0)
        for lengths, name in (("-", None), ("n=3", None), ("n=3,m=2,k=1", None), ("n=3,k=2", None), ("n=41,m=41", "m"), ("n=41,m=40", "n"), ("m=2,n=" + "9" * 30, "n")):
            for inputs in ("-", "a=1,0,4;t=no,no,yes;s=1"):
                self.assertEqual(refused(self, NoLengths, lambda: made.say(f"begin x {lengths} {inputs}")).name, name)
        for inputs, name in (
            ("-", None), ("a=1,0,4;t=no,no,yes", None), ("a=1,0,4;t=no,no,yes;s=1;q=1", None), ("a=1;t=1;q=1", None), ("a=1,0;t=no;s=", "a"), ("t=no;s=;a=1,0,4,5", "a"), ("s=;t=no;a=1,0,4", "t"), ("s=yes;t=no,no,1;a=1,0,4", "t"), ("s=yes;t=no,no,no;a=1,0,4", "s"),
            ("s=;t=no,no,no;a=1,0,4", "s"), ("s=1,1;t=no,no,no;a=1,0,4", "s"), ("s=1;t=no,no,no;a=1,yes,4", "a"), ("s=1;t=no,no,no;a=", "a"), ("a=1,yes,4;t=no;s=1", "a"), ("a=1,0;t=1,no,no;s=1", "a"), ("a=1,0,4;t=1,no,no;s=", "t"),
        ):
            self.assertEqual(refused(self, NoInputs, lambda: made.say(f"begin x n=3,m=2 {inputs}")).name, name, inputs)
        refused(self, Bare, lambda: made.say("made x"))
        self.assertEqual(made.say("begin x m=2,n=3 s=1;t=no,no,yes;a=1,0,4"), "ok")

    def test_of_an_input_far_too_long(self):
        made = desk(f"text x input a number {10 ** 29}")
        self.assertEqual(refused(self, NoInputs, lambda: made.say("begin x - a=1,2")).name, "a")

    def test_too_many(self):
        made = desk("text x input a number; y = spread a 0 4000", "begin x - a=1")
        self.assertEqual(refused(self, TooMany, lambda: made.say("run x 1 0 0")).many, 4001)
        self.assertEqual(refused(self, NoLanes, lambda: made.say("run x 0 0 0")).what, "lanes")


class ByChance(unittest.TestCase):
    def test_beside_a_house(self):
        for seed in range(60):
            chance = Random(seed)
            text, known = any_fitting(chance)
            lengths = any_lengths(chance, text)
            inputs = any_inputs(chance, text, lengths)
            made, house = Desk(), House(text, lengths, inputs)
            signs = shown(text).replace("\n", "; ")
            self.assertEqual((made.say(f"text q {signs}"), made.say("show q"), made.say("fits q")), ("ok", signs or "-", "yes"))
            pairs = ",".join(f"{letter}={many}" for letter, many in chance.sample(sorted(lengths.items()), len(lengths)))
            handed = ";".join(f"{name}=" + ",".join(shown_worth(worth) for worth in array.values()) for name, array in chance.sample(sorted(inputs.items()), len(inputs)))
            self.assertEqual(made.say(f"begin q {pairs or '-'} {handed or '-'}"), "ok")
            for _ in range(4):
                self.assert_all(made, house, known)
                cells = [(name, cell) for name in inputs for cell in inputs[name]]
                if cells and chance.random() < 0.7:
                    name, cell = chance.choice(cells)
                    worth = any_worth(chance, known[name][0])
                    due = house.change(name, cell, worth)
                    self.assertEqual(made.say(f"change q {name} {shown_cell(cell)} to {shown_worth(worth)}"), shown_cells(due))
                elif len(house):
                    house.back()
                    self.assertEqual(made.say("back q"), "ok")

    def assert_all(self, made, house, known):
        all_of = (house.text(), house.lengths(), house.inputs())
        self.assertEqual(made.say("made q"), str(house.made()))
        fault = house.fault()
        self.assertEqual(made.say("fault q"), "-" if fault is None else f"{fault[0]} {shown_cell(fault[1])} {fault[2]}")
        machine = Machine(all_of[0], plain_program(all_of[0]), *all_of[1:], lanes=2, block=3, within=2)
        for name in known:
            cells = machine.cells(name)
            worths = []
            for cell in cells:
                try:
                    worths.append(shown_worth(house.worth(name, cell)))
                    self.assertEqual(made.say(f"cell q {name} {shown_cell(cell)}"), worths[-1])
                except Faulty:
                    worths.append("?")
                    self.assertEqual(made.say(f"cell q {name} {shown_cell(cell)}"), house.how(name, cell))
            self.assertEqual(made.say(f"array q {name}"), ",".join(worths) or "-")
            for cell in cells[:2]:
                self.assertEqual(made.say(f"near q {name} {shown_cell(cell)}"), shown_cells(near(*all_of, name, cell)))
                self.assertEqual(made.say(f"through q {name} {shown_cell(cell)}"), shown_cells(through(*all_of, name, cell)))
                if name in all_of[2]:
                    self.assertEqual(made.say(f"whither q {name} {shown_cell(cell)}"), shown_cells(whither(*all_of, name, cell)))
        machine.run()
        self.assertEqual(made.say("run q 2 3 2"), " ".join(str(many) for many in machine.counts()))


if __name__ == "__main__":
    unittest.main()
