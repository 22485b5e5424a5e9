"""The form of programs, whatever their terms are."""

from everycell.names import is_index_term, is_letter, is_name
from everycell.worths import is_whole

MOST_WIDTH = 8


def has_form(thing):
    """Tells of anything whether it has the form of a program, but for what stands in the place of its terms."""
    if not _is_tuple_of(thing, 2):
        return False
    nests, places = thing
    if not isinstance(nests, tuple) or not all([_is_nest(nest) for nest in nests]):
        return False
    made = sorted(makes_by(nests))
    if not isinstance(places, tuple) or not all([_is_tuple_of(each, 2) for each in places]):
        return False
    return [name for name, _ in places] == made and all([place in made for _, place in places])


def makes_by(nests):
    """Tells a dict from the names that nests make to lists of tuples (nest, make, term), nests and makes numbered."""
    makes = {}
    for number, (_, _, _, own) in enumerate(nests):
        for at, (name, term) in enumerate(own):
            makes.setdefault(name, []).append((number, at, term))
    return makes


def is_of_letters(thing):
    """Tells of anything whether it is an index term of letters."""
    return is_index_term(thing) and all([is_letter(name) for name, _ in thing[1]])


def is_width(thing):
    """Tells of anything whether it is a width."""
    return is_whole(thing) and 1 <= thing <= MOST_WIDTH


def are_items(thing):
    """Tells of anything whether it is a tuple of items, in whatever order."""
    return isinstance(thing, tuple) and all([_is_item(item) for item in thing])


def is_order(items, names):
    """Tells whether items go through just these vars, each one whole, or by an outer and an inner behind it."""
    if not all([item[1] in names for item in items]):
        return False
    return all([_is_way([item for item in items if item[1] == name]) for name in names])


def axis_of(var):
    """Tells the axis of a var of ranges."""
    return int(var[1:])


def _is_way(items):
    """Tells whether the items of one var go through it."""
    if len(items) == 1:
        return items[0][0] == "whole"
    return [item[0] for item in items] == ["outer", "inner"] and items[0][2] == items[1][2]


def _is_item(thing):
    if _is_tuple_of(thing, 2):
        return thing[0] == "whole" and isinstance(thing[1], str)
    if not _is_tuple_of(thing, 3) or thing[0] not in ("outer", "inner"):
        return False
    return isinstance(thing[1], str) and is_width(thing[2])


def _is_nest(thing):
    if not _is_tuple_of(thing, 4):
        return False
    ranges, order, wide, makes = thing
    if not isinstance(ranges, tuple) or not all([_is_range(each, axis) for axis, each in enumerate(ranges)]):
        return False
    if not are_items(order) or not is_order(order, [var for var, _, _ in ranges]) or not isinstance(wide, bool):
        return False
    if not isinstance(makes, tuple) or len(makes) == 0:
        return False
    return all([_is_tuple_of(each, 2) and is_name(each[0]) for each in makes])


def _is_range(thing, axis):
    return _is_tuple_of(thing, 3) and thing[0] == f"i{axis}" and is_of_letters(thing[1]) and is_of_letters(thing[2])


def _is_tuple_of(thing, many):
    return isinstance(thing, tuple) and len(thing) == many
