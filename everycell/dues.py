"""Dues: the terms that the makes of a text's names have to be, with the rules of names that aren't made written in."""

from everycell.parts import asked_in, many_parts, parts_at, reads_in
from everycell.rules import carried_by, cell_of, rule_by
from everycell.shapes import shapes_in


class Dues:
    """What is due of the makes of a text of which just these names are made.

    Rules written in, again and again, may be greater than any memory, so parts are counted without writing them.
    """

    def __init__(self, text, made):
        self.shapes = shapes_in(text)
        self.deeds = {name: deed for name, deed in text[1]}
        self.gone = {name: True for name in self.deeds if name not in made}
        # What was told once of the rule of a name that isn't made, by name and cell; of one written in also by how many
        # folds and puts stand around.
        self.manys = {}
        self.written = {}
        # How often each arg stands in the expression of a map, by its name.
        self.uses = {}
        # What was told once of a make, by name and whether it is carried.
        self.terms = {}
        self.asks = {}

    def many(self, name, is_carried):
        """Tells how many parts the term of a make of a name is to have."""
        return self._many_in(self._rule_of_make(name, is_carried))

    def term(self, name, is_carried):
        """Tells what the term of a make of a name is to be."""
        key = (name, is_carried)
        if key not in self.terms:
            self.terms[key] = self._written_in(self._rule_of_make(name, is_carried), 0)
        return self.terms[key]

    def asked(self, name, is_carried):
        """Tells what the term of a make of a name is to read and pick from, as asked_in does, by its own cell."""
        key = (name, is_carried)
        if key not in self.asks:
            self.asks[key] = asked_in(self.term(name, is_carried), self._cell(name))
        return self.asks[key]

    def _cell(self, name):
        return cell_of(len(self.shapes[name]))

    def _rule_of_make(self, name, is_carried):
        deed = self.deeds[name]
        cell = self._cell(name)
        return carried_by(deed, cell) if is_carried else rule_by(deed, self.shapes, cell, 0)

    def _many_in(self, term):
        """Tells how many parts a term has with all rules written in that are to be."""
        many = many_parts(term)
        for read in reads_in(term):
            _, name, cell = read
            if name in self.gone:
                many += self._many_of_rule(name, cell) - many_parts(read)
        return many

    def _many_of_rule(self, name, cell):
        """Tells how many parts are written in for a read of a name that isn't made."""
        key = (name, cell)
        if key not in self.manys:
            deed = self.deeds[name]
            if deed[0] == "map":
                self.manys[key] = self._many_of_map(name, deed, cell)
            else:
                # How vars are named makes no part more.
                self.manys[key] = self._many_in(rule_by(deed, self.shapes, cell, 0))
        return self.manys[key]

    def _many_of_map(self, name, deed, cell):
        """Tells the same of a map, without going through its expression for each cell."""
        _, expression, sources = deed
        if name not in self.uses:
            self.uses[name] = _uses_in(expression, len(sources))
        many = many_parts(expression)
        for source, times in zip(sources, self.uses[name]):
            many += times * (self._many_in(("read", source, cell)) - 1)
        return many

    def _written_in(self, term, around):
        """Tells a term with all rules written in that are to be."""
        if term[0] == "read" and term[1] in self.gone:
            _, name, cell = term
            key = (name, cell, around)
            if key not in self.written:
                self.written[key] = self._written_in(rule_by(self.deeds[name], self.shapes, cell, around), around)
            return self.written[key]
        places = {at: more for at, more in parts_at(term)}
        return tuple([
            self._written_in(part, around + places[at]) if at in places else part for at, part in enumerate(term)
        ])


def _uses_in(expression, many):
    """Tells a list, how often each of so many args stands in an expression."""
    times = [0] * many
    waiting = [expression]
    while waiting:
        each = waiting.pop()
        if each[0] == "arg":
            times[each[1]] += 1
        elif each[0] not in ("number", "truth"):
            waiting.extend(list(each[1:]))
    return times
