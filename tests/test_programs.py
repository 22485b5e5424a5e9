import unittest
from random import Random

from everycell.errors import NoFit
from everycell.looker import lets
from everycell.programs import plain_program
from everycell.rules import rule_term
from everycell.signs import read
from everycell.texts import letters_of
from tests.things import any_fitting, any_inputs, assert_no_text_first, gone_through, outcomes

NOUGHT, N, M = (0, ()), (0, (("n", 1),)), (0, (("m", 1),))
I, J, K = ((0, ((name, 1),)) for name in ("i0", "i1", "i2"))
INPUTS = "input a number n m\ninput t truth n m\ninput u number n\ninput s number"
DEEDS = (
    "map @0 of s", "map plus @0 @1 of a a", "count 1 of n m", "count 0 of 3", "spread u 1 m", "spread a 0 2", "turn a 1,0", "part u 0 0 n", "part a 0 0 0", "join a a 1", "join u u 0",
    "fold plus @0 @1 from 0 of a 0", "fold plus @0 @1 from 0 of u 0", "run plus @0 @1 from 0 of a 1", "where t a a", "pick u u", "pick a s", "pick a a", "put u u u", "put u u u by plus @0 @1",
)


class Plain(unittest.TestCase):
    def test_put_together_by_hand(self):
        text = read(f"{INPUTS}\nz = turn a 1,0\ny = fold plus @0 @1 from 0 of z 0\nx = map @0 of s")
        self.assertEqual(plain_program(text), (
            (
                ((("i0", NOUGHT, M), ("i1", NOUGHT, N)), (("whole", "i0"), ("whole", "i1")), False, (("z", ("read", "a", (J, I))),)),
                ((("i0", NOUGHT, N),), (("whole", "i0"),), False, (("y", ("fold", "v0", M, ("plus", ("arg", 0), ("arg", 1)), (0, 1), ("read", "z", ((0, (("v0", 1),)), I)))),)),
                ((), (), False, (("x", ("read", "s", ())),)),
            ),
            (("x", "x"), ("y", "y"), ("z", "z")),
        ))

    def test_each_deed(self):
        for deed in DEEDS:
            text = read(f"{INPUTS}\nx = {deed}")
            nests, places = plain_program(text)
            self.assertEqual(places, (("x", "x"),))
            ((ranges, order, wide, makes),) = nests
            cell = (I, J, K)[:len(ranges)]
            self.assertEqual(makes, (("x", rule_term(text, "x", cell)),))
            self.assertEqual([var for var, _, _ in ranges], ["i0", "i1", "i2"][:len(ranges)])
            self.assertTrue(all(begin == NOUGHT for _, begin, _ in ranges))
            self.assertEqual(order, tuple(("whole", var) for var, _, _ in ranges))
            self.assertIs(wide, False)
            self.assertTrue(lets(text, plain_program(text)))

    def test_ranges_are_to_the_lengths(self):
        for deed, lengths in (("join a a 1", (N, (0, (("m", 2),)))), ("spread a 1 2+k", (N, (2, (("k", 1),)), M)), ("part a 0 0 0", (NOUGHT, M)), ("pick a a", (N, M, M)), ("map @0 of s", ())):
            ((ranges, _, _, _),), _ = plain_program(read(f"{INPUTS}\nx = {deed}"))
            self.assertEqual(tuple(end for _, _, end in ranges), lengths)

    def test_of_nothing(self):
        self.assertEqual(plain_program(((), ())), ((), ()))
        self.assertEqual(plain_program(text=read(INPUTS)), ((), ()))

    def test_told_twice_alike(self):
        text = read("\n".join([INPUTS, *[f"{name} = {deed}" for name, deed in zip("bcdefghijklm", DEEDS)]]))
        self.assertEqual(plain_program(text), plain_program(text))
        self.assertEqual([makes[0][0] for _, _, _, makes in plain_program(text)[0]], list("bcdefghijklm"))

    def test_of_what_does_not_fit(self):
        text = read(f"{INPUTS}\nz = turn a 1,0\ny = part u 0 1 n\nx = map @0 of a z")
        with self.assertRaises(NoFit) as caught:
            plain_program(text)
        self.assertEqual(caught.exception.row, 1)

    def test_no_text(self):
        assert_no_text_first(self, plain_program)
        assert_no_text_first(self, lambda thing: plain_program(text=thing))

    def test_going_through_it_makes_the_plain_cells(self):
        for seed in range(200):
            chance = Random(seed)
            text, known = any_fitting(chance)
            lengths = {letter: chance.randint(0, 3) for letter in letters_of(text)}
            inputs = any_inputs(chance, text, lengths)
            program = plain_program(text)
            self.assertTrue(lets(text, program))
            made, troubles = gone_through(text, program, lengths, inputs)
            due = outcomes(text, known, lengths, inputs)
            self.assertEqual(made, {(name, cell): due[name][cell] for name, _ in text[1] for cell in due[name]})
            self.assertEqual(troubles, [])


if __name__ == "__main__":
    unittest.main()
