import unittest
from random import Random

from everycell.debugger import Debugger
from everycell.desk import Desk
from everycell.errors import CellError, Faulty
from everycell.expressions import done, is_safe, kind_of, worth_by
from everycell.faults import all_told, first_fault, root_of
from everycell.house import House
from everycell.looker import lets
from everycell.machine import Machine, foretold_rows
from everycell.naming import led, named
from everycell.plain import plain_of
from everycell.programs import plain_program
from everycell.rules import is_safe_name, rule_term, worth_at
from everycell.shapes import fits, least_lengths, look_at_fit, shapes_by, wishes_of
from everycell.signs import read, shown
from everycell.texts import deed_of, kinds_by, letters_of, look_at_text, names_of, ranks_by, sources_of
from everycell.turns import is_joined, turned, turned_all
from everycell.whence import lets_way, near, outcomes_of, through, way, whither
from tests.things import any_fitting, any_inputs, any_lengths, any_turned, cells_of, outcomes, refused, shown_cell, shown_worth


def drawn(seed, rows=None):
    """A text by chance with lengths and inputs, and the kind and shape of each name."""
    chance = Random(seed)
    text, known = any_fitting(chance, rows)
    lengths = any_lengths(chance, text)
    return chance, text, known, lengths, any_inputs(chance, text, lengths)


class AllAreTheSame(unittest.TestCase):
    def test_all_ways_to_the_cells(self):
        for seed in range(250):
            chance, text, known, lengths, inputs = drawn(seed)
            turns, program = any_turned(chance, text, 14)
            self.assertIs(lets(text, program), True)
            self.assertIs(is_joined(text, (turns, program)), True)
            ahead, fault = plain_of(text, lengths, inputs)
            due = outcomes(text, known, lengths, inputs)
            arrays = {name: {cell: told[1] for cell, told in array.items() if told[0] == "worth"} for name, array in due.items()}
            for name, array in ahead.items():
                self.assertEqual(array, {cell: arrays[name][cell] for cell in array})
            made = self.ran(chance, text, program, lengths, inputs)
            house = House(text, lengths, inputs)
            whole, faults, _ = all_told(text, lengths, inputs)
            first = first_fault(text, lengths, inputs)
            for name in known:
                self.assertEqual(made.array(name), arrays[name])
                self.assertEqual(house.array(name), arrays[name])
                self.assertEqual({cell: worth for cell, worth in whole[name].items() if worth is not None}, arrays[name])
                self.assertEqual({cell: told[1] for cell, told in outcomes_of(text, lengths, inputs, name).items() if told[0] == "worth"}, arrays[name])
            self.assertEqual([made.fault(), house.fault(), faults[0] if faults else None, None if first is None else first[:3]], [fault] * 4)
            self.assert_desk(text, lengths, inputs, arrays, fault)
            self.assert_debugger(chance, text, program, lengths, inputs, arrays, fault)

    def ran(self, chance, text, program, lengths, inputs):
        lanes = chance.randint(1, 8)
        made = Machine(text, program, lengths, inputs, lanes=lanes, block=chance.randint(1, 9), within=chance.randint(1, 5))
        self.assertEqual(made.run(), len(made))
        self.assertEqual(made.counts()[:3], foretold_rows(text, program, lengths, lanes=lanes))
        return made

    def assert_desk(self, text, lengths, inputs, arrays, fault):
        desk = Desk()
        desk.say("text q " + shown(text).replace("\n", "; "))
        pairs = ",".join(f"{letter}={many}" for letter, many in lengths.items()) or "-"
        handed = ";".join(f"{name}=" + ",".join(shown_worth(worth) for worth in array.values()) for name, array in inputs.items()) or "-"
        desk.say(f"begin q {pairs} {handed}")
        for name in arrays:
            cells = list(outcomes_of(text, lengths, inputs, name))
            self.assertEqual(desk.say(f"array q {name}"), ",".join(shown_worth(arrays[name][cell]) if cell in arrays[name] else "?" for cell in cells) or "-")
        self.assertEqual(desk.say("fault q"), "-" if fault is None else f"{fault[0]} {shown_cell(fault[1])} {fault[2]}")

    def assert_debugger(self, chance, text, program, lengths, inputs, arrays, fault):
        made = Debugger(text, program, lengths, inputs, lanes=chance.randint(1, 8))
        made.stop_at(("row", chance.randint(1, 9)))
        made.go()
        self.assertEqual({name: made.array(name) for name in arrays}, arrays)
        made.go()
        self.assertEqual((made.fault(), made.is_over()), (fault, True))

    def test_turns_left_out_or_done_twice_other_lanes_and_blocks(self):
        for seed in range(300, 400):
            chance, text, known, lengths, inputs = drawn(seed)
            turns, _ = any_turned(chance, text, 10)
            ends = []
            for _ in range(4):
                program = plain_program(text)
                for turn in turns:
                    for _ in range(chance.randint(0, 2)):
                        try:
                            program = turned(text, program, turn)
                        except CellError:
                            pass
                self.assertIs(lets(text, program), True)
                made = self.ran(chance, text, program, lengths, inputs)
                ends.append((made.fault(), {name: made.array(name) for name in known}))
            self.assertEqual(ends, [ends[0]] * 4)
            self.assertEqual(ends[0][0], plain_of(text, lengths, inputs)[1])

    def test_names_and_letters_called_otherwise(self):
        for seed in range(400, 480):
            chance, text, known, lengths, inputs = drawn(seed)
            by = dict(zip(known, chance.sample([*known, "pp", "qq"], len(known))))
            own = dict(zip(lengths, chance.sample([*lengths, "a", "b"], len(lengths))))
            other = named(text, names=by, letters=own)
            _, program = any_turned(chance, other, 10)
            one = self.ran(chance, text, plain_program(text), lengths, inputs)
            two = self.ran(chance, other, program, led(lengths, own), led(inputs, by))
            self.assertEqual({by[name]: one.array(name) for name in known}, {by[name]: two.array(by[name]) for name in known})
            self.assertEqual(two.fault(), None if one.fault() is None else (by[one.fault()[0]], *one.fault()[1:]))

    def test_axes_exchanged(self):
        met = 0
        for seed in range(500, 900):
            _, text, known, lengths, inputs = drawn(seed)
            if any(deed[0] == "pick" for _, deed in text[1]):
                continue
            other = (tuple((name, kind, shape[::-1]) for name, kind, shape in text[0]), tuple((name, with_axes_exchanged(deed, len(known[name][1]))) for name, deed in text[1]))
            look_at_fit(other)
            arrays, faults, lost = all_told(text, lengths, inputs)
            found = all_told(other, lengths, {name: turned_about(array) for name, array in inputs.items()})
            self.assertEqual(found[0], {name: turned_about(array) for name, array in arrays.items()})
            self.assertEqual(sorted(found[1]), sorted((name, cell[::-1], word) for name, cell, word in faults))
            self.assertEqual(sorted(each[:2] for each in found[2]), sorted((name, cell[::-1]) for name, cell, _, _ in lost))
            met += len(faults) > 1
        self.assertGreater(met, 5)

    def test_what_a_cell_asked_is_all_that_it_hangs_on(self):
        for seed in range(900, 1000):
            chance, text, known, lengths, inputs = drawn(seed)
            house = House(text, lengths, inputs)
            cells = [(name, cell) for name, _ in text[1] for cell in outcomes_of(text, lengths, inputs, name)]
            ends = [(name, cell) for name in inputs for cell in inputs[name]]
            if not cells or not ends:
                continue
            name, cell = chance.choice(cells)
            kept, how = through(text, lengths, inputs, name, cell), (house.how(name, cell), root_of(text, lengths, inputs, name, cell))
            others = any_inputs(chance, text, lengths)
            for of, at in ends:
                if (of, at) not in kept:
                    self.assertNotIn((name, cell), house.change(of, at, others[of][at]))
            now = (house.text(), house.lengths(), house.inputs())
            self.assertEqual((house.how(name, cell), root_of(*now, name, cell)), how)
            self.assertEqual(through(*now, name, cell), kept)
            if how[0] == "worth":
                self.assertEqual(house.worth(name, cell), House(text, lengths, inputs).worth(name, cell))
            else:
                refused(self, Faulty, lambda: house.worth(name, cell))


def turned_about(array):
    return {cell[::-1]: worth for cell, worth in array.items()}


def with_axes_exchanged(deed, rank):
    """A deed by which all axes are numbered from the last one on; rank is that of what it makes."""
    word = deed[0]
    if word == "count":
        return (word, deed[1][::-1], rank - 1 - deed[2])
    if word == "spread":
        return (word, deed[1], rank - 1 - deed[2], deed[3])
    if word == "turn":
        return (word, deed[1], tuple(rank - 1 - axis for axis in reversed(deed[2])))
    if word == "part":
        return (word, deed[1], rank - 1 - deed[2], *deed[3:])
    if word == "join":
        return (*deed[:3], rank - 1 - deed[3])
    if word == "fold":
        return (*deed[:4], rank - deed[4])
    return (*deed[:4], rank - 1 - deed[4]) if word == "run" else deed


class ByPlacesAndByNames(unittest.TestCase):
    def test_the_same_either_way(self):
        text = read(signs="input a number n\nx = map over 6 @0 of a\ns = fold plus @0 @1 from 0 of x 0")
        lengths, inputs = {"n": 2}, {"a": {(0,): (1, 1), (1,): (3, 1)}}
        program = plain_program(text=text)
        for one, other in (
            (look_at_text(text), look_at_text(thing=text)), (kinds_by(text), kinds_by(text=text)), (ranks_by(text), ranks_by(text=text)), (names_of(text), names_of(text=text)), (letters_of(text), letters_of(text=text)),
            (deed_of(text, "x"), deed_of(name="x", text=text)), (sources_of(deed_of(text, "x")), sources_of(deed=deed_of(text, "x"))), (shown(text), shown(text=text)), (fits(text), fits(text=text)), (wishes_of(text), wishes_of(text=text)),
            (least_lengths(text), least_lengths(text=text)), (shapes_by(text), shapes_by(text=text)), (look_at_fit(text), look_at_fit(text=text)), (kind_of(("arg", 0), ["number"]), kind_of(kinds=["number"], thing=("arg", 0))),
            (done("plus", [(1, 1), (2, 1)]), done(worths=[(1, 1), (2, 1)], word="plus")), (worth_by(("arg", 0), [True]), worth_by(args=[True], expression=("arg", 0))), (is_safe(("arg", 0)), is_safe(expression=("arg", 0))),
            (rule_term(text, "x", ((0, ()),)), rule_term(cell=((0, ()),), name="x", text=text)), (is_safe_name(text, "x"), is_safe_name(name="x", text=text)),
            (worth_at(("number", 1, 1), {}, None), worth_at(ask=None, numbers={}, term=("number", 1, 1))), (plain_of(text, lengths, inputs), plain_of(inputs=inputs, lengths=lengths, text=text)),
            (turned(text, program, ("wide", 0)), turned(turn=("wide", 0), program=program, text=text)), (turned_all(text, [("wide", 0)]), turned_all(turns=[("wide", 0)], text=text)), (is_joined(text, ([], program)), is_joined(thing=([], program), text=text)),
            (lets(text, program), lets(thing=program, text=text)), (outcomes_of(text, lengths, inputs, "s"), outcomes_of(name="s", inputs=inputs, lengths=lengths, text=text)),
            (near(text, lengths, inputs, "s", ()), near(cell=(), name="s", inputs=inputs, lengths=lengths, text=text)), (through(text, lengths, inputs, "s", ()), through(cell=(), name="s", inputs=inputs, lengths=lengths, text=text)),
            (whither(text, lengths, inputs, "a", (0,)), whither(cell=(0,), name="a", inputs=inputs, lengths=lengths, text=text)),
            (way(text, lengths, inputs, "s", (), of="a", at=(0,)), way(at=(0,), of="a", cell=(), name="s", inputs=inputs, lengths=lengths, text=text)),
            (lets_way(text, lengths, inputs, [("a", (0,))]), lets_way(thing=[("a", (0,))], inputs=inputs, lengths=lengths, text=text)), (all_told(text, lengths, inputs), all_told(inputs=inputs, lengths=lengths, text=text)),
            (first_fault(text, lengths, inputs), first_fault(inputs=inputs, lengths=lengths, text=text)), (root_of(text, lengths, inputs, "s", ()), root_of(cell=(), name="s", inputs=inputs, lengths=lengths, text=text)),
        ):
            self.assertEqual(one, other)
        machine, debugger = (of(inputs=inputs, lengths=lengths, program=program, text=text) for of in (Machine, Debugger))
        self.assertEqual([each.worth(cell=(), name="s") for each in (machine, debugger, House(inputs=inputs, lengths=lengths, text=text))], [(8, 1)] * 3)
        self.assertEqual([each.state(cell=(), name="s") for each in (machine, debugger)], ["waits"] * 2)
        self.assertEqual([each.array(name="x") for each in (machine, debugger)], [{(0,): (6, 1), (1,): (2, 1)}] * 2)


class LeastLengths(unittest.TestCase):
    def test_a_text_that_fits_never_faults_by_shape(self):
        for seed in range(1000, 1060):
            chance, text, known, _, _ = drawn(seed)
            self.assertIs(fits(text), True)
            for _ in range(3):
                lengths = any_lengths(chance, text, 5)
                inputs = any_inputs(chance, text, lengths)
                arrays, _, _ = all_told(text, lengths, inputs)
                shapes = shapes_by(text)
                for name in known:
                    self.assertEqual(list(arrays[name]), cells_of(tuple(const + sum(many * lengths[letter] for letter, many in parts) for const, parts in shapes[name])))


class NoCellsAtAll(unittest.TestCase):
    def test_long_axes_beside_one_of_nought_take_no_time(self):
        text = read("input a number 4000 4000 n\nx = map plus @0 1 of a\nr = run plus @0 @1 from 0 of x 1\nt = turn r 2,0,1")
        lengths, inputs = {"n": 0}, {"a": {}}
        self.assertEqual(plain_of(text, lengths, inputs), ({"a": {}, "x": {}, "r": {}, "t": {}}, None))
        program = turned_all(text, [("carry", "r"), ("tile", 0, "i1", 3), ("tile", 0, "i2", 3), ("wide", 0)])
        made = Machine(text, program, lengths, inputs, lanes=3)
        self.assertEqual((made.run(), made.array("t"), made.counts(), foretold_rows(text, program, lengths, lanes=3)), (0, {}, (0, 0, 0, 0, 0), (0, 0, 0)))
        house = House(text, lengths, inputs)
        self.assertEqual((house.made(), house.array("t"), outcomes_of(text, lengths, inputs, "r"), all_told(text, lengths, inputs)[1:]), (0, {}, {}, ([], [])))
        debugger = Debugger(text, program, lengths, inputs)
        debugger.stop_at(("name", "t"))
        self.assertEqual((debugger.go(), debugger.array("x")), (("end",), {}))


if __name__ == "__main__":
    unittest.main()
