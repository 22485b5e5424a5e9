"""A desk: texts kept by names, each perhaps with a house, told and asked of by rows of words."""

from everycell.arrays import cells_within, look_at_lengths, many_cells, sizes_by
from everycell.asks import read_ask, shown_array, shown_cell, shown_cells, shown_names, shown_signs
from everycell.errors import Bare, NoInputs, NoName
from everycell.house import House
from everycell.machine import Machine
from everycell.programs import plain_program
from everycell.shapes import fits, look_at_fit
from everycell.signs import read
from everycell.whence import near, through, whither
from everycell.words import shown_worth
from everycell.worths import kind_of_worth

# What does not ask for a kept text, and what asks for a house.
OF_NOTHING = ("text", "names")
OF_HOUSES = (
    "cell", "array", "near", "through", "whither", "change", "turn", "back", "made", "fault", "run",
)


class Desk:
    """Texts by names, and the houses of some of them."""

    def __init__(self):
        self._texts = {}
        self._houses = {}

    def say(self, row):
        """Tells the answer to a row."""
        asked = read_ask(row)
        word = asked[0]
        parts = asked[1:]
        if word not in OF_NOTHING and parts[0] not in self._texts:
            raise NoName(parts[0])
        if word in OF_HOUSES and parts[0] not in self._houses:
            raise Bare("no house was begun")
        answer = ANSWERS[word]
        return answer(self, *parts)


# Each of these tells the answer to a row, by what its words write.


def _text(desk, name, signs):
    desk._texts[name] = read(signs)
    desk._houses.pop(name, None)
    return "ok"


def _show(desk, name):
    return shown_signs(desk._texts[name])


def _fits(desk, name):
    return "yes" if fits(desk._texts[name]) else "no"


def _drop(desk, name):
    desk._texts.pop(name)
    desk._houses.pop(name, None)
    return "ok"


def _names(desk):
    return shown_names(sorted(desk._texts))


def _begin(desk, name, lengths, inputs):
    text = desk._texts[name]
    look_at_fit(text)
    look_at_lengths(text, lengths)
    desk._houses[name] = House(text, lengths, _arrays_by(text, lengths, inputs))
    return "ok"


def _arrays_by(text, lengths, inputs):
    """Tells the arrays of a text's inputs of which a dict tells lists of worths."""
    if sorted(inputs) != sorted([name for name, _, _ in text[0]]):
        raise NoInputs(None)
    arrays = {}
    sizes = sizes_by(text, lengths)
    for name, kind, _ in text[0]:
        worths = inputs[name]
        if len(worths) != many_cells(sizes[name]) or not all([kind_of_worth(worth) == kind for worth in worths]):
            raise NoInputs(name)
        arrays[name] = {cell: worth for cell, worth in zip(cells_within(sizes[name]), worths)}
    return arrays


def _cell(desk, name, array, cell):
    house = desk._houses[name]
    how = house.how(array, cell)
    return shown_worth(house.worth(array, cell)) if how == "worth" else how


def _array(desk, name, array):
    house = desk._houses[name]
    found = house.array(array)
    sizes = sizes_by(house.text(), house.lengths())
    return shown_array(cells_within(sizes[array]), found)


def _near(desk, name, array, cell):
    house = desk._houses[name]
    return shown_cells(near(house.text(), house.lengths(), house.inputs(), array, cell))


def _through(desk, name, array, cell):
    house = desk._houses[name]
    return shown_cells(through(house.text(), house.lengths(), house.inputs(), array, cell))


def _whither(desk, name, array, cell):
    house = desk._houses[name]
    return shown_cells(whither(house.text(), house.lengths(), house.inputs(), array, cell))


def _change(desk, name, array, cell, worth):
    return shown_cells(desk._houses[name].change(array, cell, worth))


def _turn(desk, name, signs):
    text = read(signs)
    anew = desk._houses[name].text_is(text)
    desk._texts[name] = text
    return shown_names(anew)


def _back(desk, name):
    house = desk._houses[name]
    house.back()
    desk._texts[name] = house.text()
    return "ok"


def _made(desk, name):
    return str(desk._houses[name].made())


def _fault(desk, name):
    fault = desk._houses[name].fault()
    if fault is None:
        return "-"
    array, cell, word = fault
    return f"{array} {shown_cell(cell)} {word}"


def _run(desk, name, lanes, block, within):
    house = desk._houses[name]
    text = house.text()
    program = plain_program(text)
    machine = Machine(text, program, house.lengths(), house.inputs(), lanes=lanes, block=block, within=within)
    machine.run()
    return " ".join([str(many) for many in machine.counts()])


ANSWERS = {
    "text": _text, "show": _show, "fits": _fits, "drop": _drop, "names": _names, "begin": _begin, "cell": _cell,
    "array": _array, "near": _near, "through": _through, "whither": _whither, "change": _change, "turn": _turn,
    "back": _back, "made": _made, "fault": _fault, "run": _run,
}
