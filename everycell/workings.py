"""The working out of terms: their worths, the cells that they ask for, and by what they end."""

from everycell.expressions import done, worth_by
from everycell.terms import worth_of
from everycell.tuples import with_exchanged
from everycell.worths import is_whole_worth


class Working:
    """One working out of a term: who is asked, which cells were asked for, and what ended it, None so far."""

    def __init__(self, ask, name, cell):
        self.ask = ask
        self.name = name
        self.cell = cell
        # A dict, as it keeps the order in which they were asked for.
        self.asked = {}
        self.told = None

    def read(self, name, cell):
        """Tells the worth of a cell, or None, as which it ends, where it isn't there."""
        self.asked[(name, cell)] = True
        ask = self.ask
        worth = ask(name, cell)
        if worth is None:
            self.told = ("lost", name, cell)
        return worth

    def made(self, worth, word):
        """Tells a worth that was made, or None, as which it ends with a fault's word."""
        if worth is None:
            self.told = ("fault", word)
        return worth


def worth_in(term, numbers, working):
    """Tells the worth of a term by numbers for its names, or None where the working has ended."""
    word = term[0]
    if word == "number":
        return term[1:]
    if word == "truth":
        return term[1]
    if word == "count":
        return (worth_of(term[1], numbers), 1)
    work = WORKS.get(word, _operation)
    return work(term, numbers, working)


def _cell_by(cell, numbers):
    return tuple([worth_of(index, numbers) for index in cell])


def _read(term, numbers, working):
    _, name, cell = term
    return working.read(name, _cell_by(cell, numbers))


def _operation(term, numbers, working):
    worths = []
    for part in term[1:]:
        worth = worth_in(part, numbers, working)
        if worth is None:
            return None
        worths.append(worth)
    return working.made(done(term[0], worths), "nought")


def _if(term, numbers, working):
    _, condition, one, other = term
    truth = worth_in(condition, numbers, working)
    if truth is None:
        return None
    return worth_in(one if truth else other, numbers, working)


def _below(term, numbers, working):
    _, index, bound, one, other = term
    is_below = worth_of(index, numbers) < worth_of(bound, numbers)
    return worth_in(one if is_below else other, numbers, working)


def _fold(term, numbers, working):
    _, var, end, expression, far, inner = term
    own = {**numbers}
    for number in range(worth_of(end, numbers)):
        own[var] = number
        far = _step(expression, far, worth_in(inner, own, working), working)
        if far is None:
            return None
    return far


def _step(expression, far, worth, working):
    """Tells what an expression makes of what is so far and a worth, or None where the working has ended."""
    if worth is None:
        return None
    return working.made(worth_by(expression, [far, worth]), "nought")


def _pick(term, numbers, working):
    _, name, inner, length, cell = term
    number = worth_in(inner, numbers, working)
    if number is None:
        return None
    if not is_whole_worth(number) or not 0 <= number[0] < worth_of(length, numbers):
        return working.made(None, "pick")
    return working.read(name, (number[0], *_cell_by(cell, numbers)))


def _put(term, numbers, working):
    _, var, end, inner, at, expression, begin, value = term
    far = worth_in(begin, numbers, working)
    due = (worth_of(at, numbers), 1)
    own = {**numbers}
    is_put = False
    for number in range(worth_of(end, numbers)):
        own[var] = number
        found = None if far is None else worth_in(inner, own, working)
        if found is None:
            return None
        if found != due:
            continue
        if is_put and expression is None:
            return working.made(None, "twice")
        is_put = True
        worth = worth_in(value, own, working)
        far = worth if expression is None else _step(expression, far, worth, working)
    return far


def _carry(term, numbers, working):
    _, axis, expression, begin, inner = term
    before = working.cell[axis] - 1
    far = begin if before < 0 else working.read(working.name, with_exchanged(working.cell, axis, before))
    if far is None:
        return None
    return _step(expression, far, worth_in(inner, numbers, working), working)


WORKS = {
    "read": _read, "if": _if, "below": _below, "fold": _fold, "pick": _pick, "put": _put, "carry": _carry,
}
