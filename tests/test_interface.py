import importlib
import inspect
import unittest

# By each file its functions, with their arguments as the document's interface lists them.
FUNCTIONS = {
    "worths": (
        "is_whole(thing)", "is_number(thing)", "is_worth(thing)", "kind_of_worth(worth)", "is_whole_worth(worth)", "number(top, bottom=1)",
        "plus(one, other)", "minus(one, other)", "times(one, other)", "least(one, other)", "most(one, other)", "over(one, other)", "is_less(one, other)",
    ),
    "names": ("is_name(thing)", "is_letter(thing)", "is_length(thing)", "is_shape(thing)", "is_index_term(thing)"),
    "expressions": ("kind_of(thing, kinds)", "done(word, worths)", "worth_by(expression, args)", "is_safe(expression)"),
    "texts": (
        "look_at_text(thing)", "kinds_by(text)", "ranks_by(text)", "names_of(text)", "letters_of(text)", "deed_of(text, name)", "sources_of(deed)",
    ),
    "signs": ("shown(text)", "read(signs)"),
    "terms": (
        "constant(number)", "of_name(name)", "added(one, other)", "scaled(term, many)", "taken(one, other)", "put_in(term, by)", "worth_of(term, numbers)",
        "is_nought(term)", "is_from_nought(term)",
    ),
    "shapes": ("wishes_of(text)", "fits(text)", "least_lengths(text)", "look_at_fit(text)", "shapes_by(text)"),
    "rules": ("rule_term(text, name, cell, *, around=0)", "is_safe_name(text, name)", "worth_at(term, numbers, ask, *, name=None, cell=())"),
    "plain": ("plain_of(text, lengths, inputs)",),
    "programs": ("plain_program(text)",),
    "turns": ("turned(text, program, turn)", "turned_all(text, turns)", "is_joined(text, thing)"),
    "looker": ("lets(text, thing)",),
    "blocks": ("foretold(asks, *, block=4, within=4)",),
    "machine": ("foretold_rows(text, program, lengths, *, lanes=1)",),
    "whence": (
        "outcomes_of(text, lengths, inputs, name)", "near(text, lengths, inputs, name, cell)", "through(text, lengths, inputs, name, cell)", "whither(text, lengths, inputs, name, cell)",
        "way(text, lengths, inputs, name, cell, *, of, at)", "lets_way(text, lengths, inputs, thing)",
    ),
    "faults": ("all_told(text, lengths, inputs)", "first_fault(text, lengths, inputs)", "root_of(text, lengths, inputs, name, cell)"),
    "naming": ("named(text, *, names=None, letters=None)", "ordered(text, order)", "led(thing, names)"),
}
# By each file and class what it is made of, and its methods.
CLASSES = {
    ("blocks", "Blocks(size, *, block=4, within=4)"): (
        "write(self, at, worth)", "read(self, at)", "seen(self, at)", "flush(self)", "within(self)", "written(self)", "worths(self)", "counts(self)", "sizes(self)", "twin(self)",
        "__eq__(self, other)", "__len__(self)",
    ),
    ("machine", "Machine(text, program, lengths, inputs, *, lanes=1, block=4, within=4)"): (
        "step(self)", "run(self)", "is_over(self)", "fault(self)", "counts(self)", "state(self, name, cell)", "worth(self, name, cell)", "layers(self)", "cells(self, name)", "array(self, name)", "twin(self)",
        "__len__(self)",
    ),
    ("house", "House(text, lengths, inputs)"): (
        "change(self, name, cell, worth)", "begin_with(self, lengths, inputs)", "text_is(self, text)", "back(self)", "text(self)", "lengths(self)", "inputs(self)", "array(self, name)", "worth(self, name, cell)",
        "how(self, name, cell)", "fault(self)", "made(self)", "twin(self)", "__eq__(self, other)", "__len__(self)",
    ),
    ("debugger", "Debugger(text, program, lengths, inputs, *, lanes=1, block=4, within=4)"): (
        "stop_at(self, thing)", "drop(self, number)", "back(self)", "watch(self, name, cell)", "stops(self)", "step(self)", "go(self)", "watched(self)", "worth(self, name, cell)", "state(self, name, cell)",
        "array(self, name)", "fault(self)", "counts(self)", "is_over(self)", "machine_now(self)", "twin(self)", "__len__(self)",
    ),
    ("desk", "Desk()"): ("say(self, row)",),
}
REFUSALS = (
    "CellError", "NoText", "NoTurn", "NoLengths", "NoInputs", "NoFit", "NoLanes", "NoSigns", "NoStop", "NoOrder", "NoTerm", "NoWorth", "NoProgram", "NoRow",
    "NoCell", "NoName", "TooMany", "Faulty", "Bare",
)


class Interface(unittest.TestCase):
    def test_each_function_stands_in_its_file_with_its_arguments(self):
        for file, functions in FUNCTIONS.items():
            module = importlib.import_module(f"everycell.{file}")
            for each in functions:
                name = each.partition("(")[0]
                found = getattr(module, name)
                self.assertEqual(name + str(inspect.signature(found)), each)
                self.assertEqual(found.__module__, f"everycell.{file}")
                self.assertTrue(inspect.isfunction(found))

    def test_each_class_stands_in_its_file_with_its_own_methods(self):
        for (file, each), methods in CLASSES.items():
            name = each.partition("(")[0]
            found = getattr(importlib.import_module(f"everycell.{file}"), name)
            self.assertEqual(name + str(inspect.signature(found)), each)
            self.assertEqual(found.__module__, f"everycell.{file}")
            for method in methods:
                own = vars(found)[method.partition("(")[0]]
                self.assertEqual(method.partition("(")[0] + str(inspect.signature(own)), method)

    def test_each_refusal_stands_in_errors(self):
        module = importlib.import_module("everycell.errors")
        for name in REFUSALS:
            self.assertTrue(inspect.isclass(getattr(module, name)), name)
            self.assertEqual(getattr(module, name).__module__, "everycell.errors")


if __name__ == "__main__":
    unittest.main()
