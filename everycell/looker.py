"""The looker: whether a thing is a program of a text that makes all its cells right, for all lengths."""

from everycell.dues import Dues
from everycell.forms import axis_of, has_form, makes_by
from everycell.parts import MOST_PARTS, is_same, many_parts
from everycell.rules import is_safe_deed
from everycell.shapes import look_at_fit, shapes_in
from everycell.terms import constant, is_from_nought, taken


def lets(text, thing):
    """Tells of anything whether it is a program of a text, one that fits, that is right for all lengths."""
    look_at_fit(text)
    if not has_form(thing):
        return False
    look = Look(text, thing)
    return (
        look.are_names_right() and look.are_terms_right() and look.are_cells_covered()
        and look.is_all_asked_made() and look.are_wides_right() and look.are_places_right()
    )


def picked_from(text):
    """Tells a list of the names from which a row of a text picks."""
    return [deed[1] for _, deed in text[1] if deed[0] == "pick"]


def is_carried(term):
    """Tells of what stands in the place of a term whether it is a carried one, or looks like one."""
    return isinstance(term, tuple) and len(term) > 0 and term[0] == "carry"


class Look:
    """One look at a text that fits and a thing of a program's form: each method tells of one of the things due."""

    def __init__(self, text, program):
        self.text = text
        self.nests, places = program
        self.places = {name: place for name, place in places}
        self.makes = makes_by(self.nests)
        self.shapes = shapes_in(text)
        self.deeds = {name: deed for name, deed in text[1]}
        self.dues = Dues(text, self.makes)

    def are_names_right(self):
        """Tells whether only rows are made, and what isn't made is safe and not picked from."""
        if not all([name in self.deeds for name in self.makes]):
            return False
        picked = picked_from(self.text)
        others = [(name, deed) for name, deed in self.deeds.items() if name not in self.makes]
        return all([is_safe_deed(deed) and name not in picked for name, deed in others])

    def are_terms_right(self):
        """Tells whether each make's term is the one due."""
        return all([self._is_term_right(name, term) for name, makes in self.makes.items() for _, _, term in makes])

    def _is_term_right(self, name, term):
        carried = is_carried(term)
        if carried and self.deeds[name][0] != "run":
            return False
        # Counted first: what is due, or handed in, may be greater than any memory once it is written.
        due = self.dues.many(name, carried)
        if due > MOST_PARTS or many_parts(term, due) != due:
            return False
        return is_same(self.dues.term(name, carried), term)

    def are_cells_covered(self):
        """Tells whether the makes of each name cover its shape once, none carried along an axis where they are cut."""
        return all([self._is_covered(name, makes) for name, makes in self.makes.items()])

    def _is_covered(self, name, makes):
        shape = self.shapes[name]
        ranges = [self.nests[nest][0] for nest, _, _ in makes]
        if not all([len(each) == len(shape) for each in ranges]):
            return False
        cut = [axis for axis, length in enumerate(shape) if not _is_whole([each[axis] for each in ranges], length)]
        if len(cut) != 1:
            return len(makes) == 1 and not cut
        axis = cut[0]
        if not _is_row([each[axis] for each in ranges], shape[axis]):
            return False
        return not any([self.is_carried_along(name, term, axis) for _, _, term in makes])

    def is_carried_along(self, name, term, axis):
        """Tells whether a make's term, which is right, is carried along an axis."""
        return is_carried(term) and self.deeds[name][4] == axis

    def is_all_asked_made(self):
        """Tells whether each name that a make reads or picks from is an input, or made ahead of it."""
        for name, makes in self.makes.items():
            for nest, at, term in makes:
                asked = self.dues.asked(name, is_carried(term))
                rows = [other for other in asked if other in self.deeds]
                if not all([self._is_made_ahead(other, asked[other], nest, at) for other in rows]):
                    return False
        return True

    def _is_made_ahead(self, name, is_there, nest, at):
        """Tells whether a name is made ahead of a make of a nest, that reads it at its own cell alone or else."""
        makes = self.makes[name]
        last, _, _ = makes[-1]
        return last < nest or (is_there and any([own == nest and place < at for own, place, _ in makes]))

    def are_wides_right(self):
        """Tells whether each wide nest has an item, and no make is carried along the last one's var."""
        for _, order, wide, makes in self.nests:
            if not wide:
                continue
            if not order:
                return False
            axis = axis_of(order[-1][1])
            if any([self.is_carried_along(name, term, axis) for name, term in makes]):
                return False
        return True

    def are_places_right(self):
        """Tells whether names have their places' shapes, and take a place over once nothing asks for what lay there."""
        if not all([self.shapes[name] == self.shapes[place] for name, place in self.places.items()]):
            return False
        ahead = {}
        for name in self.deeds:
            if name in self.places:
                place = self.places[name]
                if place in ahead and not self._is_taken_over(ahead[place], name):
                    return False
                ahead[place] = name
        return True

    def _is_taken_over(self, earlier, later):
        """Tells whether the makes of the later one of two names may write where the earlier one lies."""
        first, _, _ = self.makes[later][0]
        last, _, _ = self.makes[earlier][-1]
        if last >= first:
            return False
        for name, makes in self.makes.items():
            for nest, at, term in makes:
                is_there = self.dues.asked(name, is_carried(term)).get(earlier)
                if nest >= first and is_there is not None and not (is_there and self._is_up_to(later, nest, at)):
                    return False
        return True

    def _is_up_to(self, name, nest, at):
        """Tells whether a make of a nest is the first make of a name there, or stands ahead of it."""
        places = [place for own, place, _ in self.makes[name] if own == nest]
        return len(places) > 0 and at <= places[0]


def _is_whole(ranges, length):
    """Tells whether all ranges of one axis are from 0 to its length."""
    return all([begin == constant(0) and end == length for _, begin, end in ranges])


def _is_row(ranges, length):
    """Tells whether ranges of one axis stand one behind the other, from 0 to its length, none running back."""
    at = constant(0)
    for _, begin, end in ranges:
        if begin != at or not is_from_nought(taken(end, begin)):
            return False
        at = end
    return at == length
