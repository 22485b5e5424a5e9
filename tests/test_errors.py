import unittest

from everycell import errors
from tests.things import GREAT, things

FIELDS = {
    "NoText": ("part", "number"), "NoTurn": ("why",), "NoLengths": ("name",), "NoInputs": ("name",),
    "NoFit": ("row",), "NoLanes": ("what",), "NoSigns": ("row",), "NoStop": ("thing",), "NoOrder": ("number",),
    "NoCell": ("name", "cell"), "NoName": ("name",), "TooMany": ("many",), "Faulty": ("name", "cell", "word"),
}
OF_A_TEXT = ("CellError", "NoTerm", "NoWorth", "NoProgram", "NoRow", "Bare")
UNDER = {
    "CellError": ValueError, "NoCell": IndexError, "NoName": KeyError, "TooMany": OverflowError,
    "Faulty": RuntimeError, "Bare": RuntimeError,
}
ALL = sorted(set(FIELDS) | set(OF_A_TEXT))
BUILT_IN = (ValueError, IndexError, KeyError, OverflowError, RuntimeError)


def values():
    return [None, True, False, 0, -3, GREAT, 10 ** 50, "", "a text", ("a", (0, 1)), (), [1, [2]], {"a": {}}] + things()


def class_of(name):
    return getattr(errors, name)


class MadeOfValues(unittest.TestCase):
    def test_each_field_is_the_very_value_by_place(self):
        for name, fields in FIELDS.items():
            for value in values():
                for at, field in enumerate(fields):
                    handed = [object() for _ in fields]
                    handed[at] = value
                    made = class_of(name)(*handed)
                    for each, thing in zip(fields, handed):
                        self.assertIs(getattr(made, each), thing, (name, each, field))

    def test_each_field_is_the_very_value_by_name(self):
        for name, fields in FIELDS.items():
            for value in values():
                for field in fields:
                    handed = {each: object() for each in fields}
                    handed[field] = value
                    made = class_of(name)(**handed)
                    for each, thing in handed.items():
                        self.assertIs(getattr(made, each), thing, (name, each))

    def test_the_first_by_place_and_the_others_by_name(self):
        made = errors.Faulty("a", word="nought", cell=(1,))
        self.assertEqual((made.name, made.cell, made.word), ("a", (1,), "nought"))
        made = errors.NoText("rows", number=3)
        self.assertEqual((made.part, made.number), ("rows", 3))
        made = errors.NoCell("a", cell=[2])
        self.assertEqual((made.name, made.cell), ("a", [2]))

    def test_none_is_made_of_too_few_or_too_many_values(self):
        for name, fields in FIELDS.items():
            with self.assertRaises(TypeError):
                class_of(name)(*[1 for _ in fields][1:])
            with self.assertRaises(TypeError):
                class_of(name)(*[1 for _ in fields], 1)

    def test_what_is_handed_in_is_not_changed(self):
        thing = [1, [2]]
        made = errors.NoName(thing)
        self.assertEqual(thing, [1, [2]])
        self.assertIs(made.name, thing)

    def test_a_raised_one_has_its_fields(self):
        for name, fields in FIELDS.items():
            handed = [object() for _ in fields]
            with self.assertRaises(class_of(name)) as caught:
                raise class_of(name)(*handed)
            for field, thing in zip(fields, handed):
                self.assertIs(getattr(caught.exception, field), thing)


class MadeOfATextAlone(unittest.TestCase):
    def test_each_is_made_of_a_text_and_raised(self):
        for name in OF_A_TEXT:
            for text in ("", "why not", "x" * 200):
                with self.assertRaises(class_of(name)):
                    raise class_of(name)(text)


class WhatTheyStandUnder(unittest.TestCase):
    def test_straight_under_what_is_told(self):
        for name in ALL:
            self.assertEqual(class_of(name).__bases__, (UNDER.get(name, errors.CellError),), name)

    def test_none_under_another_one_but_under_cell_error(self):
        for name in ALL:
            for other in ALL:
                due = name == other or (other == "CellError" and name not in UNDER)
                self.assertIs(issubclass(class_of(name), class_of(other)), due, (name, other))

    def test_under_one_of_the_built_in_ones_alone(self):
        for name in ALL:
            for base in BUILT_IN:
                due = UNDER.get(name, ValueError) is base
                self.assertIs(issubclass(class_of(name), base), due, (name, base))


if __name__ == "__main__":
    unittest.main()
