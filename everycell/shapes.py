"""Shapes of a text's names, what its deeds wish of them, and whether the text fits."""

from everycell.errors import NoFit
from everycell.terms import added, is_from_nought, is_nought, taken, worth_of
from everycell.texts import letters_of, look_at_text
from everycell.tuples import with_exchanged, with_put_in, without


def wishes_of(text):
    """Tells a list of a text's wishes, tuples (row, word, term)."""
    look_at_text(text)
    shapes = shapes_in(text)
    wishes = []
    for row, (_, deed) in enumerate(text[1]):
        wishes.extend([(row, word, term) for word, term in _wishes_by(deed, shapes)])
    return wishes


def fits(text):
    """Tells whether all wishes of a text hold for all lengths."""
    return all([_holds(word, term) for _, word, term in wishes_of(text)])


def look_at_fit(text):
    """Refuses, with NoFit, a text that doesn't fit."""
    for row, word, term in wishes_of(text):
        if not _holds(word, term):
            raise NoFit(row)


def shapes_by(text):
    """Tells a dict from the names of a text that fits, in order, to their shapes."""
    look_at_fit(text)
    return shapes_in(text)


def least_lengths(text):
    """Tells the least lengths by which a wish falls and the first row that then has one, None where the text fits."""
    letters = letters_of(text)
    wishes = wishes_of(text)
    found = [_least_numbers(word, term, letters) for _, word, term in wishes if not _holds(word, term)]
    if not found:
        return None
    _, least = min([(sum(numbers), numbers) for numbers in found])
    lengths = {letter: number for letter, number in zip(letters, least)}
    rows = [row for row, word, term in wishes if _falls(word, worth_of(term, lengths))]
    return (lengths, rows[0])


def shapes_in(text):
    """Tells a dict from the names of what surely is a text, whether it fits or not, in order, to their shapes."""
    shapes = {name: shape for name, _, shape in text[0]}
    for name, deed in text[1]:
        shape_by = SHAPES[deed[0]]
        shapes[name] = shape_by(deed, shapes)
    return shapes


# Each of these tells the shape of what a deed makes, by the shapes of the names ahead.


def _shape_of_map(deed, shapes):
    return shapes[deed[2][0]]


def _shape_of_count(deed, shapes):
    return deed[1]


def _shape_of_spread(deed, shapes):
    _, source, axis, length = deed
    return with_put_in(shapes[source], axis, length)


def _shape_of_turn(deed, shapes):
    _, source, order = deed
    return tuple([shapes[source][axis] for axis in order])


def _shape_of_part(deed, shapes):
    _, source, axis, _, many = deed
    return with_exchanged(shapes[source], axis, many)


def _shape_of_join(deed, shapes):
    _, one, other, axis = deed
    return with_exchanged(shapes[one], axis, added(shapes[one][axis], shapes[other][axis]))


def _shape_of_fold(deed, shapes):
    _, _, _, source, axis = deed
    return without(shapes[source], axis)


def _shape_of_run(deed, shapes):
    return shapes[deed[3]]


def _shape_of_first(deed, shapes):
    """Tells the shape of a where or a put, which is the one of its first source."""
    return shapes[deed[1]]


def _shape_of_pick(deed, shapes):
    _, source, numbers = deed
    return (*shapes[numbers], *shapes[source][1:])


def _wishes_by(deed, shapes):
    """Tells a list of tuples (word, term), what a deed wishes of the shapes of its sources."""
    word = deed[0]
    if word == "map":
        return _likes([shapes[source] for source in deed[2]])
    if word == "where":
        return _likes([shapes[source] for source in deed[1:]])
    if word == "part":
        _, source, axis, begin, many = deed
        return [("least", taken(taken(shapes[source][axis], begin), many))]
    if word == "join":
        _, one, other, axis = deed
        return _likes([without(shapes[one], axis), without(shapes[other], axis)])
    if word == "put":
        _, _, numbers, values, _ = deed
        return _likes([shapes[numbers], shapes[values]])
    return []


def _likes(shapes):
    """Tells the wishes that each further one of some shapes be like the first, axis by axis."""
    first = shapes[0]
    return [("like", taken(one, other)) for shape in shapes[1:] for one, other in zip(first, shape)]


def _holds(word, term):
    """Tells whether a wish holds for all lengths."""
    return is_nought(term) if word == "like" else is_from_nought(term)


def _falls(word, worth):
    """Tells whether a wish falls where its term has this worth."""
    return worth != 0 if word == "like" else worth < 0


def _least_numbers(word, term, letters):
    """Tells the least numbers for the letters, a tuple, by which a wish falls that doesn't hold for all lengths."""
    const, parts = term
    if _falls(word, const):
        return tuple([0 for _ in letters])
    if word == "least":
        manys = {letter: many for letter, many in parts}
        return _least_below(const, [manys.get(letter, 0) for letter in letters])
    # One letter's 1 is enough, and the tuple is the least one where it is the last letter's.
    return tuple([1 if letter == parts[-1][0] else 0 for letter in letters])


def _least_below(const, manys):
    """Tells the least numbers, a tuple, that times manys take const, which is from 0 on, below 0."""
    # Of each sum the least worth is that of the least many alone.
    left = const // -min(manys) + 1
    numbers = []
    for at, many in enumerate(manys[:-1]):
        deepest = min(manys[at + 1:])
        # So far from below 0 with all that is left put on the deepest one behind; each put on this one takes a step.
        far = const + left * deepest + 1
        number = 0 if far <= 0 else -(-far // (deepest - many))
        numbers.append(number)
        left -= number
        const += number * many
    return (*numbers, left)


SHAPES = {
    "map": _shape_of_map, "count": _shape_of_count, "spread": _shape_of_spread, "turn": _shape_of_turn,
    "part": _shape_of_part, "join": _shape_of_join, "fold": _shape_of_fold, "run": _shape_of_run,
    "where": _shape_of_first, "pick": _shape_of_pick, "put": _shape_of_first,
}
