"""Turns: programs turned about, each told as a new one that the looker lets by."""

from everycell.dues import Dues
from everycell.errors import NoProgram, NoTurn, TooMany
from everycell.forms import are_items, is_of_letters, is_order, is_width
from everycell.looker import is_carried, lets, picked_from
from everycell.parts import is_same
from everycell.programs import plain_program
from everycell.rules import is_safe_deed
from everycell.shapes import look_at_fit
from everycell.terms import is_from_nought, taken
from everycell.tuples import with_exchanged
from everycell.worths import is_whole

MOST_TOLD = 2000


def turned(text, program, turn):
    """Tells what a turn makes of a program of a text that fits."""
    if not lets(text, program):
        raise NoProgram("only a program of the text that is right can be turned")
    return _turned(text, program, turn)


def turned_all(text, turns):
    """Tells the plain program of a text that fits with turns done one behind the other."""
    program = plain_program(text)
    for turn in turns:
        program = _turned(text, program, turn)
    return program


def is_joined(text, thing):
    """Tells of anything whether it is a tuple of turns and the program that they make of the plain one."""
    look_at_fit(text)
    if not isinstance(thing, tuple) or len(thing) != 2 or not isinstance(thing[0], (list, tuple)):
        return False
    turns, program = thing
    try:
        due = turned_all(text, turns)
    except (NoTurn, TooMany):
        return False
    return is_same(due, program)


def _turned(text, program, turn):
    """Tells what a turn makes of a program that is right."""
    word = turn[0] if isinstance(turn, tuple) and len(turn) > 0 else None
    if not isinstance(word, str) or word not in TURNS or len(turn) != MANY[word]:
        raise NoTurn("turn")
    plan = Plan(text, program)
    turn_about = TURNS[word]
    parts = turn[1:]
    turn_about(plan, *parts)
    new = plan.program()
    if not lets(text, new):
        raise NoTurn(LAST[word])
    return new


class Plan:
    """A program that is right, of which a turn may change what it will.

    nests is a list of tuples (ranges, order, wide, makes), makes a list of tuples (name, is it carried): what their
    terms are to be hangs on these and on the names made alone. places is a dict.
    """

    def __init__(self, text, program):
        nests, places = program
        self.text = text
        self.deeds = {name: deed for name, deed in text[1]}
        self.nests = [
            (ranges, order, wide, [(name, is_carried(term)) for name, term in makes])
            for ranges, order, wide, makes in nests
        ]
        self.places = {name: place for name, place in places}

    def program(self):
        """Tells the program, or refuses it, with TooMany, ahead of writing a term with too many parts."""
        dues = Dues(self.text, self.places)
        manys = [dues.many(name, carried) for _, _, _, makes in self.nests for name, carried in makes]
        great = [many for many in manys if many > MOST_TOLD]
        if great:
            raise TooMany(great[0])
        nests = [
            (ranges, order, wide, tuple([(name, dues.term(name, carried)) for name, carried in makes]))
            for ranges, order, wide, makes in self.nests
        ]
        return (tuple(nests), tuple([(own, self.places[own]) for own in sorted(self.places)]))

    def nest(self, thing, most):
        """Tells the nest of a number, one below most; refuses all else."""
        if not is_whole(thing) or not 0 <= thing < most:
            raise NoTurn("turn")
        return self.nests[thing]

    def look_at_made(self, thing):
        """Refuses what is no made name."""
        if not isinstance(thing, str) or thing not in self.places:
            raise NoTurn("turn")

    def carried(self):
        """Tells a list of the names of which some make is carried."""
        return [name for _, _, _, makes in self.nests for name, carried in makes if carried]


def _axis_in(ranges, thing):
    """Tells the axis of a var of a nest's ranges; refuses all else."""
    names = [var for var, _, _ in ranges]
    if thing not in names:
        raise NoTurn("turn")
    return names.index(thing)


# Each of these turns a plan about, or refuses it with the first why that is due ahead of the greatness of terms.


def _fuse(plan, name):
    plan.look_at_made(name)
    if not is_safe_deed(plan.deeds[name]):
        raise NoTurn("safe")
    if name in picked_from(plan.text):
        raise NoTurn("pick")
    if name in plan.carried():
        raise NoTurn("carried")
    own = plan.places.pop(name)
    if own in list(plan.places.values()) or name in list(plan.places.values()):
        raise NoTurn("shared")
    nests = []
    for ranges, order, wide, makes in plan.nests:
        left = [make for make in makes if make[0] != name]
        if left:
            nests.append((ranges, order, wide, left))
    plan.nests = nests


def _exchange(plan, number, items):
    ranges, order, wide, makes = plan.nest(number, len(plan.nests))
    if not are_items(items) or sorted(items) != sorted(order):
        raise NoTurn("turn")
    if not is_order(items, [var for var, _, _ in ranges]):
        raise NoTurn("order")
    plan.nests[number] = (ranges, items, wide, makes)


def _tile(plan, number, var, width):
    ranges, order, wide, makes = plan.nest(number, len(plan.nests))
    _axis_in(ranges, var)
    if not is_width(width):
        raise NoTurn("turn")
    if ("whole", var) not in order:
        raise NoTurn("order")
    outer = with_exchanged(order, order.index(("whole", var)), ("outer", var, width))
    plan.nests[number] = (ranges, (*outer, ("inner", var, width)), wide, makes)


def _split(plan, number, var, at):
    ranges, order, wide, makes = plan.nest(number, len(plan.nests))
    axis = _axis_in(ranges, var)
    if not is_of_letters(at):
        raise NoTurn("turn")
    _, begin, end = ranges[axis]
    if not is_from_nought(taken(at, begin)) or not is_from_nought(taken(end, at)):
        raise NoTurn("split")
    if any([carried and plan.deeds[name][4] == axis for name, carried in makes]):
        raise NoTurn("carried")
    pieces = [with_exchanged(ranges, axis, piece) for piece in ((var, begin, at), (var, at, end))]
    plan.nests[number:number + 1] = [(piece, order, wide, makes) for piece in pieces]


def _together(plan, number):
    ranges, order, wide, makes = plan.nest(number, len(plan.nests) - 1)
    others = plan.nests[number + 1]
    if (ranges, order, wide) != others[:3]:
        raise NoTurn("ranges")
    plan.nests[number:number + 2] = [(ranges, order, wide, [*makes, *others[3]])]


def _carry(plan, name):
    plan.look_at_made(name)
    if plan.deeds[name][0] != "run" or name in plan.carried():
        raise NoTurn("run")
    plan.nests = [
        (ranges, order, wide, [(own, carried or own == name) for own, carried in makes])
        for ranges, order, wide, makes in plan.nests
    ]


def _wide(plan, number):
    ranges, order, wide, makes = plan.nest(number, len(plan.nests))
    if not order:
        raise NoTurn("wide")
    plan.nests[number] = (ranges, order, not wide, makes)


def _share(plan, name, other):
    plan.look_at_made(name)
    plan.look_at_made(other)
    plan.places[name] = plan.places[other]


# By the word of each turn how many things stand in it, the word among them, what does it, and why it isn't where
# the looker wouldn't let what comes of it.
MANY = {
    "fuse": 2, "exchange": 3, "tile": 4, "split": 4, "together": 2, "carry": 2, "wide": 2, "share": 3,
}
TURNS = {
    "fuse": _fuse, "exchange": _exchange, "tile": _tile, "split": _split, "together": _together,
    "carry": _carry, "wide": _wide, "share": _share,
}
LAST = {
    "fuse": "shared", "exchange": "wide", "tile": "wide", "split": "split", "together": "reads",
    "carry": "carried", "wide": "wide", "share": "share",
}
