import copy
import unittest
from random import Random

from everycell.errors import NoName, NoOrder
from everycell.faults import all_told
from everycell.machine import Machine
from everycell.naming import led, named, ordered
from everycell.plain import plain_of
from everycell.programs import plain_program
from everycell.signs import read, shown
from everycell.texts import letters_of, look_at_text, names_of
from everycell.turns import turned_all
from tests.things import any_fitting, any_inputs, any_lengths, any_text, assert_no_text_first, many_things, refused

SIGNS = (
    "input a number n 2+m\ninput t truth n\ninput k number k\nb = map plus @0 1 of a\nc = count 1 of n m 1\ns = spread t 1 m+n\ng = turn a 1,0\np = part a 1 0 1+m\nj = join b a 0\n"
    "f = fold plus @0 @1 from 0 of b 1\nr = run or @0 @1 from no of t 0\nw = where t f f"
)
TEXT = read(SIGNS)
PUTS = read("input k number n\ninput v number n\nx = pick v k\ny = put x k v\nz = put v k x by plus @0 @1")


class Named(unittest.TestCase):
    def test_some_names(self):
        self.assertEqual(shown(named(TEXT, names={"a": "zz", "f": "h"})), SIGNS.replace("input a", "input zz").replace("of a", "of zz").replace("turn a", "turn zz").replace("part a", "part zz").replace("b a 0", "b zz 0").replace("f = ", "h = ").replace("t f f", "t h h"))
        self.assertEqual(shown(named(PUTS, names={"k": "of", "v": "put", "x": "k"})), "input of number n\ninput put number n\nk = pick put of\ny = put k of put\nz = put put of k by plus @0 @1")

    def test_all_and_two_exchanged(self):
        by = {name: name + "x" for name in names_of(TEXT)}
        self.assertEqual(names_of(named(TEXT, names=by)), list(by.values()))
        self.assertEqual(named(named(TEXT, names=by), names={new: old for old, new in by.items()}), TEXT)
        self.assertEqual(shown(named(PUTS, names={"k": "v", "v": "k"})), "input v number n\ninput k number n\nx = pick k v\ny = put x v k\nz = put k v x by plus @0 @1")
        self.assertEqual(shown(named(PUTS, names={"k": "v", "v": "z", "z": "k"})), "input v number n\ninput z number n\nx = pick z v\ny = put x v z\nk = put z v x by plus @0 @1")

    def test_none(self):
        for more in ({}, {"names": None}, {"names": {}}, {"letters": None}, {"letters": {}}, {"names": None, "letters": None}, {"names": {"a": "a"}, "letters": {"n": "n"}}):
            self.assertEqual(named(TEXT, **more), TEXT)
        self.assertEqual(named(((), ()), names={}), ((), ()))

    def test_letters(self):
        self.assertEqual(letters_of(TEXT), ["k", "m", "n"])
        found = named(TEXT, letters={"n": "a", "m": "z"})
        self.assertEqual(shown(found), SIGNS.replace("number n 2+m", "number a 2+z").replace("truth n", "truth a").replace("of n m 1", "of a z 1").replace("1 m+n", "1 a+z").replace("0 1+m", "0 1+z"))
        # Two exchanged: the parts of a length are sorted anew.
        text = read("input a number 3*m+n\nx = part a 0 m 2*m")
        self.assertEqual(shown(named(text, letters={"n": "m", "m": "n"})), "input a number m+3*n\nx = part a 0 n 2*n")
        look_at_text(named(text, letters={"n": "m", "m": "n"}))
        self.assertEqual(named(text, letters={"m": "z"}), read("input a number n+3*z\nx = part a 0 z 2*z"))

    def test_both(self):
        text = read("input n number n\nm = spread n 0 m")
        self.assertEqual(shown(named(letters={"n": "a", "m": "n"}, names={"n": "m", "m": "n"}, text=text)), "input m number a\nn = spread m 0 n")
        with self.assertRaises(TypeError):
            named(text, {})

    def test_no_dict(self):
        for thing in [thing for thing in many_things() if not isinstance(thing, dict) and thing is not None]:
            self.assertIs(refused(self, NoName, lambda: named(TEXT, names=thing)).name, thing)
            self.assertIs(refused(self, NoName, lambda: named(TEXT, letters=thing)).name, thing)
            self.assertEqual(refused(self, NoName, lambda: named(TEXT, names={"q": 1}, letters=thing)).name, "q")

    def test_the_least_key_that_is_none(self):
        for by, due in (
            ({"q": "x"}, "q"), ({"a": "A", "q": "x"}, "q"), ({"z": 1, "x": 1, "y": 1}, "x"), ({"a": "b", 7: "x"}, 7), ({None: 1, 7: 1, (1,): 1, "q": 1}, "q"), ({None: 1, 7: 1}, 7), ({None: 1, (1,): 1}, (1,)),
            ({True: 1, None: 2}, None), ({10: 1, 9: 1}, 10), ({"n": "x"}, "n"), ({b"a": "x", ("a",): "y"}, ("a",)), ({"Z": "x", "y": "q"}, "Z"),
        ):
            for pairs in (list(by.items()), list(reversed(by.items()))):
                self.assertEqual(refused(self, NoName, lambda: named(TEXT, names=dict(pairs), letters={"q": "q"})).name, due)
        for by, due in (({"a": "x"}, "a"), ({"q": "x", "o": "z", "n": "n"}, "o"), ({"nn": 1, 1: 1}, "nn"), ({None: "a", "m": "M"}, None)):
            self.assertEqual(refused(self, NoName, lambda: named(TEXT, letters=by)).name, due)

    def test_the_first_new_one_that_is_none(self):
        for thing in many_things():
            self.assertIs(refused(self, NoName, lambda: named(TEXT, names={"w": None, "k": thing, "a": "b", "b": "b"}, letters={"q": 1})).name, thing)
            self.assertIs(refused(self, NoName, lambda: named(TEXT, letters={"n": "A", "k": thing, "m": "n"})).name, thing)
        self.assertEqual(refused(self, NoName, lambda: named(TEXT, names={"w": "W", "t": "T", "f": "F"})).name, "T")
        self.assertEqual(refused(self, NoName, lambda: named(TEXT, letters={"n": "N", "m": "M"})).name, "M")
        self.assertEqual(refused(self, NoName, lambda: named(TEXT, letters={"n": "zz"})).name, "zz")
        self.assertEqual(refused(self, NoName, lambda: named(TEXT, names={"a": "abcdefg"})).name, "abcdefg")

    def test_the_first_that_two_would_have(self):
        for by, due in (({"a": "b"}, "b"), ({"w": "a"}, "a"), ({"a": "x", "t": "y", "k": "y", "b": "x"}, "y"), ({"w": "x", "f": "y", "b": "x", "c": "y"}, "y"), ({"a": "t", "t": "k"}, "k"), ({"a": "t", "t": "k", "k": "b"}, "b")):
            self.assertEqual(refused(self, NoName, lambda: named(TEXT, names=by, letters={"q": 1})).name, due)
        for by, due in (({"n": "m"}, "m"), ({"k": "n"}, "n"), ({"k": "z", "m": "n", "n": "z"}, "z"), ({"k": "z", "m": "z", "n": "z"}, "z")):
            self.assertEqual(refused(self, NoName, lambda: named(TEXT, letters=by)).name, due)

    def test_names_go_ahead_of_letters(self):
        self.assertEqual(refused(self, NoName, lambda: named(TEXT, names={"a": "b"}, letters=7)).name, "b")
        self.assertEqual(refused(self, NoName, lambda: named(TEXT, letters=7, names={"a": "A"})).name, "A")

    def test_no_text_first(self):
        assert_no_text_first(self, lambda thing: named(thing, names=7, letters=7))
        assert_no_text_first(self, named)

    def test_chance_texts_there_and_back(self):
        for seed in range(300):
            chance = Random(seed)
            text, _ = any_text(chance)
            names, letters = names_of(text), letters_of(text)
            by = dict(zip(names, chance.sample(names + ["p", "q", "rr"], len(names))))
            own = dict(zip(letters, chance.sample(letters + ["a", "b"], len(letters))))
            other = named(text, names=by, letters=own)
            look_at_text(other)
            self.assertEqual(names_of(other), list(by.values()))
            self.assertEqual(letters_of(other), sorted(own.values()))
            self.assertEqual(named(other, names={new: old for old, new in by.items()}, letters={new: old for old, new in own.items()}), text)


class Ordered(unittest.TestCase):
    TEXT = read("input a number\nb = map @0 of a\nc = map @0 of a\nd = map plus @0 @1 of c b\ne = count 0 of n")

    def test_another_order(self):
        for order, signs in (
            ([0, 1, 2, 3], "bcde"), ((3, 1, 0, 2), "ecbd"), ([1, 0, 3, 2], "cbed"), ((1, 3, 0, 2), "cebd"),
        ):
            found = ordered(self.TEXT, order)
            self.assertEqual(("".join(name for name, _ in found[1]), found[0]), (signs, self.TEXT[0]))
            self.assertEqual(sorted(found[1]), sorted(self.TEXT[1]))
        self.assertEqual(ordered(order=(), text=((), ())), ((), ()))

    def test_no_order(self):
        for thing in many_things() + [[0, 1, 2], [0, 1, 2, 3, 4], [0, 1, 2, 2], [0, 1, 2, 4], [-1, 0, 1, 2], [0, True, 2, 3], (False, 1, 2, 3), ["0", 1, 2, 3], {0: 0, 1: 1, 2: 2, 3: 3}, "0123", range(4), [[0, 1, 2, 3]], [0, 1, 2, None],
                                      [0, 1, 2, (3,)], {0, 1, 2, 3}]:
            self.assertIsNone(refused(self, NoOrder, lambda: ordered(self.TEXT, thing)).number)
        for thing in [thing for thing in many_things() if thing not in ((), [])]:
            self.assertIsNone(refused(self, NoOrder, lambda: ordered(((), ()), thing)).number)

    def test_a_row_that_would_ask_a_name_not_ahead(self):
        for order, number in (([2, 0, 1, 3], 2), ([0, 2, 1, 3], 2), ((3, 1, 2, 0), 2)):
            self.assertEqual(refused(self, NoOrder, lambda: ordered(self.TEXT, order)).number, number)
        text = read("input a number\nb = map @0 of a\nc = map @0 of b\nd = map @0 of c")
        for order, number in (((2, 1, 0), 2), ((1, 2, 0), 1), ((0, 2, 1), 2), ((1, 0, 2), 1)):
            self.assertEqual(refused(self, NoOrder, lambda: ordered(text, order)).number, number)

    def test_no_text_first(self):
        assert_no_text_first(self, lambda thing: ordered(thing, None))
        assert_no_text_first(self, lambda thing: ordered(thing, []))

    def test_what_is_handed_in_stays(self):
        order = [3, 1, 0, 2]
        ordered(self.TEXT, order)
        self.assertEqual(order, [3, 1, 0, 2])
        by = {"a": "b", "b": "a"}
        named(self.TEXT, names=by, letters={"n": "z"})
        self.assertEqual(by, {"a": "b", "b": "a"})


class Led(unittest.TestCase):
    def test_keys(self):
        self.assertEqual(list(led({"a": 1, "b": 2, "c": 3}, {"a": "b", "b": "a", "q": "z"}).items()), [("b", 1), ("a", 2), ("c", 3)])
        self.assertEqual(led(names={"n": "m"}, thing={"n": 4, "k": 1}), {"m": 4, "k": 1})
        self.assertEqual((led({}, {"a": "b"}), led({"a": 1}, {}), led({"a": 1}, None)), ({}, {"a": 1}, {"a": 1}))

    def test_what_is_told_is_new(self):
        thing = {"a": {(0,): (1, 1)}, "b": [[1], {"x": [2]}], "c": (1, [2], {"y": 3})}
        kept = copy.deepcopy(thing)
        found = led(thing, {"a": "z"})
        self.assertEqual(found, {"z": kept["a"], "b": kept["b"], "c": kept["c"]})
        self.assertIsInstance(found["c"], tuple)
        found["z"].clear()
        found["b"][0].append(7)
        found["b"][1]["x"].clear()
        found["c"][1].append(7)
        found["c"][2].clear()
        self.assertEqual(thing, kept)
        found = led(thing, {})
        thing["a"].clear()
        thing["c"][1].clear()
        self.assertEqual(found, kept)

    def test_truths_stay_truths(self):
        self.assertEqual(repr(led({"t": {(): True, (0,): False}, "n": None}, {"t": "s"})), repr({"s": {(): True, (0,): False}, "n": None}))


class ByChance(unittest.TestCase):
    def test_each_cell_is_what_it_was(self):
        for seed in range(250):
            chance = Random(seed)
            text, known = any_fitting(chance)
            lengths = any_lengths(chance, text)
            inputs = any_inputs(chance, text, lengths)
            by = dict(zip(known, chance.sample([*known, "pp", "qq", "rr"], len(known))))
            own = dict(zip(lengths, chance.sample([*lengths, "a", "z"], len(lengths))))
            other = named(text, names=by, letters=own)
            arrays, fault = plain_of(text, lengths, inputs)
            others, behind = plain_of(other, led(lengths, own), led(inputs, by))
            self.assertEqual(repr(others), repr(led(arrays, by)))
            self.assertEqual(behind, None if fault is None else (by[fault[0]], *fault[1:]))
            arrays, faults, lost = all_told(text, lengths, inputs)
            found = all_told(other, led(lengths, own), led(inputs, by))
            self.assertEqual(found, (led(arrays, by), [(by[name], *rest) for name, *rest in faults], [(by[name], cell, by[more], there) for name, cell, more, there in lost]))
            made = Machine(other, plain_program(other), led(lengths, own), led(inputs, by))
            made.run()
            self.assertEqual(made.fault(), behind)

    def test_rows_in_another_order(self):
        for seed in range(250):
            chance = Random(seed)
            text, known = any_fitting(chance)
            lengths = any_lengths(chance, text)
            inputs = any_inputs(chance, text, lengths)
            order = chance.sample(range(len(text[1])), len(text[1]))
            try:
                other = ordered(text, order)
            except NoOrder as no:
                self.assertIn(no.number, order)
                self.assertGreater(order.index(no.number), -1)
                continue
            self.assertEqual(other, (text[0], tuple(text[1][number] for number in order)))
            look_at_text(other)
            self.assertEqual(ordered(other, [order.index(number) for number in range(len(order))]), text)
            arrays, faults, _ = all_told(text, lengths, inputs)
            found = all_told(other, lengths, inputs)
            self.assertEqual((found[0], sorted(found[1])), (arrays, sorted(faults)))

    def test_turns_lead_along_with_names(self):
        text = read("input a number n\nx = map plus @0 1 of a\ny = run plus @0 @1 from 0 of x 0")
        other = named(text, names={"x": "y", "y": "x"}, letters={"n": "z"})
        inputs = {"a": {(at,): (at, 1) for at in range(3)}}
        one = Machine(text, turned_all(text, [("fuse", "x"), ("carry", "y")]), {"n": 3}, inputs)
        two = Machine(other, turned_all(other, [("fuse", "y"), ("carry", "x")]), {"z": 3}, inputs)
        self.assertEqual((one.run(), one.array("y"), one.array("x")), (two.run(), two.array("x"), two.array("y")))


if __name__ == "__main__":
    unittest.main()
