"""Things of many kinds, to be handed in where anything may be; expressions and texts made by chance; and what texts
that fit make, by the document's words alone, for tests to hold the program beside."""

from fractions import Fraction
from itertools import product

from everycell.errors import Faulty, NoCell, NoFit, NoInputs, NoLengths, NoName, NoText, NoTurn, TooMany
from everycell.programs import plain_program
from everycell.rules import worth_at
from everycell.signs import read
from everycell.terms import added, is_from_nought, taken
from everycell.texts import letters_of
from everycell.turns import turned

GREAT = 10 ** 40 + 7
# The greatest number that is read where it is written.
THIRTY = 10 ** 30 - 1


def things():
    """A new list of things of every built-in kind, none of which is a name, a letter, a worth but True, False,
    a term, a text or a deed."""
    return [
        None, 0, 1, -1, 2, GREAT, -GREAT,
        "", " ", "A", "7", "number!", "Number", "toolong",
        b"", b"a", bytearray(b"a"), memoryview(b"a"),
        [], [1], [1, 2], ["a"], [[]], [(), ()], [[], []], ["arg", 0], ["number", 1, 1],
        (1,), ("a",), (None, None), (1, 2, 3), ("a", "b"), ((), (), ()), ([], []), ((), []), ([], ()),
        (1, (2, (3, (4, (5, (6, (7, (8, (9, ())))))))),),
        {}, {"a": 1}, {1: 2}, {(): ()}, {"inputs": (), "rows": ()},
        set(), {1, 2}, {"a"}, frozenset(), frozenset(["a"]),
        range(0), range(2), slice(1), Ellipsis, NotImplemented,
        int, str, tuple, len, print, things, lambda: 0, object(), ValueError("a"), (each for each in "ab"), iter("ab"),
        [[[[[[[[[[]]]]]]]]]], {"a": [{"b": ({},)}]},
    ]


def many_things():
    """The things, and True and False."""
    return [True, False] + things()


# By each operation's word what it is by the kinds of its parts: n a number, t a truth.
SIGNATURES = {
    "plus": {"nn": "n"}, "minus": {"nn": "n"}, "times": {"nn": "n"}, "over": {"nn": "n"},
    "least": {"nn": "n"}, "most": {"nn": "n"}, "less": {"nn": "t"}, "like": {"nn": "t", "tt": "t"},
    "not": {"t": "t"}, "and": {"tt": "t"}, "or": {"tt": "t"}, "if": {"tnn": "n", "ttt": "t"},
}
KINDS = {"n": "number", "t": "truth"}


def any_worth(chance, kind):
    if kind == "truth":
        return chance.random() < 0.5
    value = Fraction(chance.randint(-3, 3), chance.randint(1, 3))
    return (value.numerator, value.denominator)


def any_leaf(chance, kind):
    worth = any_worth(chance, kind)
    return ("truth", worth) if kind == "truth" else ("number", *worth)


def any_expression(chance, kind, deep, kinds):
    """An expression of a kind by the args' kinds, no more than so many within one another, by chance."""
    args = [at for at, each in enumerate(kinds) if each == kind]
    if deep == 1 or chance.random() < 0.2:
        return ("arg", chance.choice(args)) if args and chance.random() < 0.6 else any_leaf(chance, kind)
    word, parts = chance.choice([
        (word, parts) for word, each in SIGNATURES.items() for parts, told in each.items() if KINDS[told] == kind])
    return (word, *[any_expression(chance, KINDS[part], deep - 1, kinds) for part in parts])


def any_length(chance):
    parts = [(letter, chance.choice([1, 1, 2, 3, THIRTY])) for letter in sorted(chance.sample("kmnz", chance.randint(0, 2)))]
    return (chance.choice([0, 0, 1, 5, THIRTY]), tuple(parts))


def any_shape(chance, rank):
    return tuple(any_length(chance) for _ in range(rank))


def any_text(chance):
    """A text by chance, and a dict from its names, in order, to tuples (kind, rank)."""
    names = chance.sample(
        ["a", "b", "zz", "input", "of", "from", "by", "map", "number", "truth", "yes", "no", "n", "m", "plus", "put", "abcdef",
         "x", "y", "count"], 18)
    known = {}
    inputs = []
    for _ in range(chance.randint(0, 6)):
        name, kind, rank = names.pop(), chance.choice(["number", "truth"]), chance.randint(0, 3)
        known[name] = (kind, rank)
        inputs.append((name, kind, any_shape(chance, rank)))
    rows = []
    for _ in range(chance.randint(0, 12)):
        deed, made = any_deed(chance, known)
        name = names.pop()
        known[name] = made
        rows.append((name, deed))
    return (tuple(inputs), tuple(rows)), known


def any_deed(chance, known):
    """A deed by chance, by the names ahead, and the (kind, rank) of what it makes."""
    words = ["map", "spread", "turn", "part", "join", "fold", "run", "where", "pick", "put"]
    chance.shuffle(words)
    for word in words:
        found = DEEDS[word](chance, known)
        if found is not None:
            return found
    rank = chance.randint(1, 3)
    return ("count", any_shape(chance, rank), chance.randrange(rank)), ("number", rank)


def named(chance, known, fits):
    """A name ahead by chance, of those whose kind and rank fit, or None."""
    names = [name for name, (kind, rank) in known.items() if fits(kind, rank)]
    return chance.choice(names) if names else None


def any_map(chance, known):
    one = named(chance, known, lambda kind, rank: True)
    if one is None:
        return None
    own = known[one][1]
    sources = [one] + [named(chance, known, lambda kind, rank: rank == own) for _ in range(chance.randint(0, 2))]
    kind = chance.choice(["number", "truth"])
    kinds = [known[source][0] for source in sources]
    return ("map", any_expression(chance, kind, chance.randint(1, 4), kinds), tuple(sources)), (kind, own)


def any_spread(chance, known):
    source = named(chance, known, lambda kind, rank: rank < 3)
    if source is None:
        return None
    kind, rank = known[source]
    return ("spread", source, chance.randint(0, rank), any_length(chance)), (kind, rank + 1)


def any_turn(chance, known):
    source = named(chance, known, lambda kind, rank: True)
    if source is None:
        return None
    return ("turn", source, tuple(chance.sample(range(known[source][1]), known[source][1]))), known[source]


def any_part(chance, known):
    source = named(chance, known, lambda kind, rank: rank > 0)
    if source is None:
        return None
    return ("part", source, chance.randrange(known[source][1]), any_length(chance), any_length(chance)), known[source]


def any_join(chance, known):
    one = named(chance, known, lambda kind, rank: rank > 0)
    if one is None:
        return None
    other = named(chance, known, lambda kind, rank: (kind, rank) == known[one])
    return ("join", one, other, chance.randrange(known[one][1])), known[one]


def any_run(chance, known, word="run"):
    source = named(chance, known, lambda kind, rank: rank > 0)
    if source is None:
        return None
    of, rank = known[source]
    kind = chance.choice(["number", "truth"])
    deed = (word, any_expression(chance, kind, 3, [kind, of]), any_worth(chance, kind), source, chance.randrange(rank))
    return deed, (kind, rank - 1 if word == "fold" else rank)


def any_fold(chance, known):
    return any_run(chance, known, "fold")


def any_where(chance, known):
    truths = named(chance, known, lambda kind, rank: kind == "truth")
    if truths is None:
        return None
    one = named(chance, known, lambda kind, rank: rank == known[truths][1])
    other = named(chance, known, lambda kind, rank: (kind, rank) == known[one])
    return ("where", truths, one, other), known[one]


def any_pick(chance, known):
    source = named(chance, known, lambda kind, rank: rank > 0)
    if source is None:
        return None
    kind, own = known[source]
    numbers = named(chance, known, lambda kind, rank: kind == "number" and own + rank - 1 <= 3)
    return None if numbers is None else (("pick", source, numbers), (kind, own + known[numbers][1] - 1))


def any_put(chance, known):
    source = named(chance, known, lambda kind, rank: rank == 1)
    numbers = named(chance, known, lambda kind, rank: (kind, rank) == ("number", 1))
    if source is None or numbers is None:
        return None
    kind = known[source][0]
    values = named(chance, known, lambda own, rank: (own, rank) == (kind, 1))
    expression = any_expression(chance, kind, 3, [kind, kind]) if chance.random() < 0.5 else None
    return ("put", source, numbers, values, expression), (kind, 1)


DEEDS = {
    "map": any_map, "spread": any_spread, "turn": any_turn, "part": any_part, "join": any_join,
    "fold": any_fold, "run": any_run, "where": any_where, "pick": any_pick, "put": any_put,
}


# A text that is none, by its part and number, though it has the form of one.
NO_TEXTS = (
    (((("A", "number", ()),), ()), "inputs", 0), (((("a", "number", ()), ("a", "number", ())), ()), "inputs", 1),
    (((("a", "number", ()),), (("b", ("turn", "c", ())),)), "rows", 0),
    (((("a", "number", ()),), (("b", ("turn", "a", ())), ("b", ("turn", "a", ())))), "rows", 1),
    (((("a", "number", tuple((0, ((letter, 1),)) for letter in "kmn")),), (("b", ("count", ((0, (("y", 1),)), (0, (("z", 1),))), 0)),)), "letters", None),
)


def assert_no_text_first(case, ask):
    """What is no text, of any kind, is refused by a def that takes one, with the part and number told."""
    for thing in many_things():
        with case.assertRaises(NoText, msg=repr(thing)[:80]) as caught:
            ask(thing)
        case.assertEqual((caught.exception.part, caught.exception.number), ("text", None))
    for thing, part, number in NO_TEXTS:
        with case.assertRaises(NoText) as caught:
            ask(thing)
        case.assertEqual((caught.exception.part, caught.exception.number), (part, number))


# What fits, and what doesn't, for a def that takes a text, lengths and inputs.
UNFIT = read("input a number n\ninput b number m\nx = map @0 of a a\ny = map @0 of a b\nz = map @0 of a b")
FIT = read("input a number n\ninput t truth m n\ninput s number\nx = map plus @0 @0 of a\ny = count 0 of k")
FIT_LENGTHS = {"k": 1, "m": 2, "n": 1}
FIT_INPUTS = {"a": {(0,): (3, 1)}, "t": {(0, 0): True, (1, 0): False}, "s": {(): (0, 1)}}


def row_of(*worths):
    """An array of one axis; a whole number stands for the number."""
    return {(at,): (worth, 1) if type(worth) is int else worth for at, worth in enumerate(worths)}


def table_of(*rows):
    """An array of two axes."""
    return {(row, at): (worth, 1) if type(worth) is int else worth for row, worths in enumerate(rows) for at, worth in enumerate(worths)}


def worth_or_fault(made, name, cell):
    """The worth that an object tells of a cell, or the values of the refusal."""
    try:
        return made.worth(name, cell)
    except Faulty as fault:
        return (fault.name, fault.cell, fault.word)


def shown_worth(worth):
    """How a desk writes a worth."""
    if isinstance(worth, bool):
        return "yes" if worth else "no"
    return str(worth[0]) if worth[1] == 1 else f"{worth[0]}/{worth[1]}"


def shown_cell(cell):
    """How a desk writes a cell."""
    return ",".join(map(str, cell)) if cell else "-"


def shown_cells(cells):
    """How a desk writes a list of names and cells."""
    return " ".join(f"{name}:{shown_cell(cell)}" for name, cell in cells) if cells else "-"


def refused(case, error, ask):
    with case.assertRaises(error) as caught:
        ask()
    return caught.exception


def assert_arrays_looked_at(case, ask):
    """A def of a text, lengths and inputs refuses what is none, in this order, as 5.1 tells."""
    for left in ((None, None), ({}, {}), (FIT_LENGTHS, FIT_INPUTS)):
        assert_no_text_first(case, lambda thing: ask(thing, *left))
        case.assertEqual(refused(case, NoFit, lambda: ask(UNFIT, *left)).row, 1)
    assert_no_lengths(case, lambda lengths: ask(FIT, lengths, None))
    for inputs, name in (
        (None, None), ({}, None), ({**FIT_INPUTS, "x": {(0,): (3, 1)}}, None), ({"s": None, "t": None, "a": None}, "a"), ({**FIT_INPUTS, "s": {}, "t": {}}, "t"), ({**FIT_INPUTS, "s": {(): True}}, "s"),
        ({**FIT_INPUTS, "a": {(0,): (2, 4)}}, "a"), ({**FIT_INPUTS, "a": {(False,): (2, 1)}}, "a"), ({**FIT_INPUTS, "t": {(0, 0): (1, 1), (1, 0): True}}, "t"), ({**FIT_INPUTS, "a": {(0,): (3, 1), (1,): (3, 1)}}, "a"),
    ):
        case.assertEqual(refused(case, NoInputs, lambda: ask(FIT, FIT_LENGTHS, inputs)).name, name)
    for thing in many_things():
        case.assertIsNone(refused(case, NoInputs, lambda: ask(FIT, FIT_LENGTHS, thing)).name)
        case.assertEqual(refused(case, NoInputs, lambda: ask(FIT, FIT_LENGTHS, {**FIT_INPUTS, "t": thing})).name, "t")


def assert_no_lengths(case, ask):
    """A def of lengths of FIT refuses what is none."""
    for thing in many_things() + [{**FIT_LENGTHS, "z": 1}, {"k": 1, "m": 2}, {"k": 1, "m": 2, "z": 1}]:
        case.assertIsNone(refused(case, NoLengths, lambda: ask(thing)).name)
    for thing in many_things() + [41, -1]:
        if not (type(thing) is int and 0 <= thing <= 40):
            case.assertEqual(refused(case, NoLengths, lambda: ask({"n": thing, "m": thing, "k": 1})).name, "m")


def assert_no_name(case, ask, more=()):
    """A def of a name refuses what is none, of any kind."""
    for thing in many_things() + ["q", "A", ("a",), ["a"], {"a": 1}, *more]:
        case.assertIs(refused(case, NoName, lambda: ask(thing)).name, thing)


def assert_no_cell(case, ask, name, sizes):
    """A def of a cell refuses what is none of the cells of a name of these sizes, of any kind."""
    near = [(*[0] * (len(sizes) + 1),), sizes, [*[0] * len(sizes)], 0, "0", *[(*[0] * at, wrong, *[0] * (len(sizes) - at - 1)) for at in range(len(sizes)) for wrong in (-1, False, None, "0", (0,), [])]]
    for thing in [thing for thing in many_things() if thing != ()] + near + ([()] if sizes else []):
        if thing == () and sizes == () or isinstance(thing, tuple) and thing in cells_of(sizes) and not any(isinstance(at, bool) for at in thing):
            continue
        found = refused(case, NoCell, lambda: ask(thing))
        case.assertEqual(found.name, name)
        case.assertIs(found.cell, thing)


# Texts by chance that fit, and what they make.

NOUGHT = (0, ())
N = (0, (("n", 1),))
LENGTHS = (NOUGHT, (1, ()), (2, ()), (3, ()), N, N, N, (0, (("m", 1),)), (1, (("n", 1),)), (0, (("n", 2),)), (0, (("m", 1), ("n", 1))))


def any_small_shape(chance, rank):
    return tuple(chance.choice(LENGTHS) for _ in range(rank))


class Growing:
    """A text by chance that fits, row by row, with the kind and shape of each name."""

    def __init__(self, chance, rows, deep=3):
        self.chance, self.deep = chance, deep
        self.known = {}
        self.names = chance.sample(["a", "b", "c", "d", "e", "f", "g", "h", "k", "m", "n", "p", "q", "r", "x", "y", "z", "zz", "v", "i"], 20)
        self.inputs = tuple(self.input_row() for _ in range(chance.randint(1, 3)))
        self.rows = ()
        for _ in range(rows):
            self.rows += (self.row(),)

    def text(self):
        return (self.inputs, self.rows)

    def input_row(self):
        name, kind = self.names.pop(), self.chance.choice(["number", "number", "truth"])
        shape = any_small_shape(self.chance, self.chance.choice([0, 1, 1, 2, 2]))
        self.known[name] = (kind, shape)
        return (name, kind, shape)

    def row(self):
        words = list(GROWING)
        found = None
        while found is None:
            found = GROWING[self.chance.choice(words)](self)
        name = self.names.pop()
        self.known[name] = found[1]
        return (name, found[0])

    def one_of(self, fits):
        names = [name for name, (kind, shape) in self.known.items() if fits(kind, shape)]
        return self.chance.choice(names[-4:]) if names else None

    def map(self):
        one = self.one_of(lambda kind, shape: True)
        sources = [one] + [self.one_of(lambda kind, shape: shape == self.known[one][1]) for _ in range(self.chance.randint(0, 2))]
        kind = self.chance.choice(["number", "number", "truth"])
        return ("map", any_expression(self.chance, kind, self.deep, [self.known[name][0] for name in sources]), tuple(sources)), (kind, self.known[one][1])

    def count(self):
        rank = self.chance.choice([1, 1, 2, 3])
        shape = any_small_shape(self.chance, rank)
        return ("count", shape, self.chance.randrange(rank)), ("number", shape)

    def spread(self):
        source = self.one_of(lambda kind, shape: len(shape) < 3)
        if source is None:
            return None
        kind, shape = self.known[source]
        axis, length = self.chance.randint(0, len(shape)), self.chance.choice(LENGTHS)
        return ("spread", source, axis, length), (kind, (*shape[:axis], length, *shape[axis:]))

    def turn(self):
        source = self.one_of(lambda kind, shape: len(shape) > 1)
        if source is None:
            return None
        kind, shape = self.known[source]
        order = tuple(self.chance.sample(range(len(shape)), len(shape)))
        return ("turn", source, order), (kind, tuple(shape[axis] for axis in order))

    def part(self):
        source = self.one_of(lambda kind, shape: len(shape) > 0)
        if source is None:
            return None
        kind, shape = self.known[source]
        axis = self.chance.randrange(len(shape))
        pairs = [(begin, many) for begin in LENGTHS for many in LENGTHS if is_from_nought(taken(taken(shape[axis], begin), many))]
        begin, many = self.chance.choice(pairs)
        return ("part", source, axis, begin, many), (kind, (*shape[:axis], many, *shape[axis + 1:]))

    def join(self):
        one = self.one_of(lambda kind, shape: len(shape) > 0)
        if one is None:
            return None
        kind, shape = self.known[one]
        axis = self.chance.randrange(len(shape))
        other = self.one_of(lambda own, its: own == kind and len(its) == len(shape) and all(its[at] == shape[at] for at in range(len(its)) if at != axis))
        length = added(shape[axis], self.known[other][1][axis])
        # Else arrays would soon be greater than a test has time for.
        return (("join", one, other, axis), (kind, (*shape[:axis], length, *shape[axis + 1:]))) if length[0] < 5 and sum(many for _, many in length[1]) < 4 else None

    def run(self, word="run"):
        source = self.one_of(lambda kind, shape: len(shape) > 0)
        if source is None:
            return None
        of, shape = self.known[source]
        kind = self.chance.choice(["number", "number", "truth"])
        axis = self.chance.randrange(len(shape))
        deed = (word, any_expression(self.chance, kind, self.deep, [kind, of]), any_worth(self.chance, kind), source, axis)
        return deed, (kind, shape if word == "run" else (*shape[:axis], *shape[axis + 1:]))

    def fold(self):
        return self.run("fold")

    def where(self):
        truths = self.one_of(lambda kind, shape: kind == "truth")
        if truths is None:
            return None
        one = self.one_of(lambda kind, shape: shape == self.known[truths][1])
        other = self.one_of(lambda kind, shape: (kind, shape) == self.known[one])
        return ("where", truths, one, other), self.known[one]

    def pick(self):
        source = self.one_of(lambda kind, shape: len(shape) > 0)
        if source is None:
            return None
        kind, shape = self.known[source]
        numbers = self.one_of(lambda own, its: own == "number" and len(its) + len(shape) - 1 <= 3)
        return None if numbers is None else (("pick", source, numbers), (kind, (*self.known[numbers][1], *shape[1:])))

    def put(self):
        source = self.one_of(lambda kind, shape: len(shape) == 1)
        numbers = self.one_of(lambda kind, shape: kind == "number" and len(shape) == 1)
        if source is None or numbers is None:
            return None
        kind = self.known[source][0]
        values = self.one_of(lambda own, its: (own, its) == (kind, self.known[numbers][1]))
        if values is None:
            return None
        expression = any_expression(self.chance, kind, self.deep, [kind, kind]) if self.chance.random() < 0.5 else None
        return ("put", source, numbers, values, expression), self.known[source]


GROWING = {
    "map": Growing.map, "count": Growing.count, "spread": Growing.spread, "turn": Growing.turn, "part": Growing.part, "join": Growing.join,
    "fold": Growing.fold, "run": Growing.run, "where": Growing.where, "pick": Growing.pick, "put": Growing.put,
}


def any_fitting(chance, rows=None, deep=3):
    """A text by chance that fits, and a dict from its names to tuples (kind, shape)."""
    growing = Growing(chance, chance.randint(0, 7) if rows is None else rows, deep)
    return growing.text(), growing.known


def sizes_of(shape, lengths):
    return tuple(const + sum(many * lengths[name] for name, many in parts) for const, parts in shape)


def cells_of(sizes):
    return list(product(*[range(size) for size in sizes]))


def any_inputs(chance, text, lengths, whole=0.7):
    """Arrays by chance of the text's inputs, many of whose numbers are small whole ones, that may be picked at."""
    def worth(kind):
        return (chance.randint(0, 3), 1) if kind == "number" and chance.random() < whole else any_worth(chance, kind)
    return {name: {cell: worth(kind) for cell in cells_of(sizes_of(shape, lengths))} for name, kind, shape in text[0]}


class Faulted(Exception):
    """What a cell comes to that has no worth: a fault with its word, or what it asked for in vain."""


def value_of(worth):
    return worth if isinstance(worth, bool) else Fraction(*worth)


def worth_of_value(value):
    return value if isinstance(value, bool) else (value.numerator, value.denominator)


def value_by(expression, args):
    """The value of an expression by its args' values."""
    word = expression[0]
    if word == "arg":
        return args[expression[1]]
    if word in ("number", "truth"):
        return expression[1] if word == "truth" else Fraction(expression[1], expression[2])
    if word == "if":
        return value_by(expression[2 if value_by(expression[1], args) else 3], args)
    parts = [value_by(part, args) for part in expression[1:]]
    if word == "over" and parts[1] == 0:
        raise Faulted("fault", "nought")
    return {
        "plus": lambda a, b: a + b, "minus": lambda a, b: a - b, "times": lambda a, b: a * b, "over": lambda a, b: a / b, "least": lambda a, b: min(a, b),
        "most": lambda a, b: max(a, b), "less": lambda a, b: a < b, "like": lambda a, b: a == b, "not": lambda a: not a, "and": lambda a, b: a and b,
        "or": lambda a, b: a or b,
    }[word](*parts)


class Lazily(list):
    """Args of which each is asked for where it stands, and not ahead."""

    def __init__(self, asks):
        super().__init__(asks)

    def __getitem__(self, at):
        return list.__getitem__(self, at)()


def value_of_cell(deed, cell, shapes, lengths, ask):
    """The value of a row's cell by its deed, as 2.1 tells it, of what an ask of names and cells tells."""
    word = deed[0]
    if word == "map":
        return value_by(deed[1], Lazily([lambda name=name: ask(name, cell) for name in deed[2]]))
    if word == "count":
        return Fraction(cell[deed[2]])
    if word == "spread":
        return ask(deed[1], cell[:deed[2]] + cell[deed[2] + 1:])
    if word == "turn":
        at = [None] * len(cell)
        for axis, number in enumerate(cell):
            at[deed[2][axis]] = number
        return ask(deed[1], tuple(at))
    if word == "part":
        return ask(deed[1], moved(cell, deed[2], sizes_of([deed[3]], lengths)[0]))
    if word == "join":
        length = sizes_of([shapes[deed[1]][deed[3]]], lengths)[0]
        return ask(deed[1], cell) if cell[deed[3]] < length else ask(deed[2], moved(cell, deed[3], -length))
    if word in ("fold", "run"):
        return value_of_fold(deed, cell, shapes, lengths, ask)
    if word == "where":
        return ask(deed[2 if ask(deed[1], cell) else 3], cell)
    if word == "pick":
        rank = len(shapes[deed[2]])
        number = ask(deed[2], cell[:rank])
        if number not in range(sizes_of(shapes[deed[1]], lengths)[0]):
            raise Faulted("fault", "pick")
        return ask(deed[1], (int(number), *cell[rank:]))
    return value_of_put(deed, cell, shapes, lengths, ask)


def moved(cell, axis, far):
    return cell[:axis] + (cell[axis] + far,) + cell[axis + 1:]


def value_of_fold(deed, cell, shapes, lengths, ask):
    word, expression, begin, source, axis = deed
    far = value_of(begin)
    many = sizes_of(shapes[source], lengths)[axis] if word == "fold" else cell[axis] + 1
    for number in range(many):
        behind = cell[axis:] if word == "fold" else cell[axis + 1:]
        far = value_by(expression, [far, ask(source, (*cell[:axis], number, *behind))])
    return far


def value_of_put(deed, cell, shapes, lengths, ask):
    _, source, numbers, values, expression = deed
    far, many = ask(source, cell), 0
    for number in range(sizes_of(shapes[numbers], lengths)[0]):
        if ask(numbers, (number,)) == cell[0]:
            many += 1
            if expression is None and many == 2:
                raise Faulted("fault", "twice")
            value = ask(values, (number,))
            far = value if expression is None else value_by(expression, [far, value])
    return far


def told_and_asked(text, known, lengths, inputs):
    """By each name and cell a tuple: what it comes to, whatever faults ahead, a worth, ("fault", word) or
    ("lost", name, cell); and the cells that its rule asks for, in order, each once."""
    shapes = {name: shape for name, (_, shape) in known.items()}
    told = {name: {cell: (("worth", inputs[name][cell]), []) for cell in cells_of(sizes_of(shapes[name], lengths))} for name, _, _ in text[0]}
    asked = {}

    def ask(name, cell):
        asked[(name, cell)] = True
        found = told[name][cell][0]
        if found[0] != "worth":
            raise Faulted("lost", name, cell)
        return value_of(found[1])

    for name, deed in text[1]:
        told[name] = {}
        for cell in cells_of(sizes_of(shapes[name], lengths)):
            asked.clear()
            try:
                found = ("worth", worth_of_value(value_of_cell(deed, cell, shapes, lengths, ask)))
            except Faulted as fault:
                found = fault.args
            told[name][cell] = (found, list(asked))
    return told


def outcomes(text, known, lengths, inputs):
    """What each cell of each name comes to, whatever faults ahead."""
    told = told_and_asked(text, known, lengths, inputs)
    return {name: {cell: found for cell, (found, _) in array.items()} for name, array in told.items()}


def any_lengths(chance, text, most=3):
    return {letter: chance.randint(0, most) for letter in letters_of(text)}


def plain_by_words(text, known, lengths, inputs):
    """What the plain reader tells."""
    arrays = {}
    for name, array in outcomes(text, known, lengths, inputs).items():
        arrays[name] = {}
        for cell, told in array.items():
            if told[0] != "worth":
                return arrays, (name, cell, told[1])
            arrays[name][cell] = told[1]
    return arrays, None


def moments_of(ranges, order, lengths):
    """All moments of a nest, in the order of its items, as dicts from vars to numbers."""
    bounds = {var: (sizes_of([begin], lengths)[0], sizes_of([end], lengths)[0]) for var, begin, end in ranges}
    moments = [{}]
    for item in order:
        begin, end = bounds[item[1]]
        going = []
        for moment in moments:
            if item[0] == "inner":
                first = moment["outer " + item[1]]
                going.extend({**moment, item[1]: at} for at in range(first, min(first + item[2], end)))
            elif item[0] == "outer":
                going.extend({**moment, "outer " + item[1]: at} for at in range(begin, end, item[2]))
            else:
                going.extend({**moment, item[1]: at} for at in range(begin, end))
        moments = going
    return moments


def gone_through(text, program, lengths, inputs, lanes=1):
    """Goes through a program's nests, and tells (made, troubles): made a dict from (name, cell) to what its term came to;
    troubles a list of cells made twice, and of asks for what has not been made or has been written over."""
    held = {(name, cell): ((name, cell), worth) for name, array in inputs.items() for cell, worth in array.items()}
    nests, places = program
    places = {**dict(places), **{name: name for name in inputs}}
    made, troubles = {}, []

    def ask(name, cell):
        found = held.get((places[name] if name not in inputs else name, cell))
        if found is None or found[0] != (name, cell):
            troubles.append(("asked", name, cell))
            return None
        return found[1]

    for ranges, order, wide, makes in nests:
        for moments in side_by_side(moments_of(ranges, order, lengths), order, lanes if wide else 1):
            for name, term in makes:
                told = []
                for moment in moments:
                    cell = tuple(moment[var] for var, _, _ in ranges)
                    if (name, cell) in made:
                        troubles.append(("twice", name, cell))
                    told.append((cell, worth_at(term, {**lengths, **moment}, ask, name=name, cell=cell)[0]))
                for cell, found in told:
                    made[(name, cell)] = found
                    held[(places[name], cell)] = ((name, cell), found[1] if found[0] == "worth" else None)
    return made, troubles


def side_by_side(moments, order, lanes):
    """Moments in lists of so many that differ in the last item's var alone."""
    if lanes == 1:
        return [[moment] for moment in moments]
    rows = {}
    for moment in moments:
        key = tuple(sorted((var, at) for var, at in moment.items() if var != order[-1][1]))
        rows.setdefault(key, []).append(moment)
    return [row[at:at + lanes] for row in rows.values() for at in range(0, len(row), lanes)]


def any_turn(chance, program):
    """A turn by chance of a program, that may be one that it doesn't take."""
    nests, places = program
    names = [name for name, _ in places] or ["a"]
    number = chance.randrange(len(nests)) if nests else 0
    ranges, order = nests[number][:2] if nests else ((), ())
    var, begin, end = chance.choice(ranges) if ranges else ("i0", NOUGHT, NOUGHT)
    return chance.choice([
        ("fuse", chance.choice(names)), ("exchange", number, tuple(chance.sample(order, len(order)))), ("tile", number, var, chance.randint(1, 4)),
        ("split", number, var, chance.choice([begin, end, *LENGTHS])), ("together", number), ("carry", chance.choice(names)), ("wide", number),
        ("share", chance.choice(names), chance.choice(names)),
    ])


def any_turned(chance, text, many):
    """Turns by chance that the plain program of a text takes, of so many that were tried, and what they tell."""
    turns, program = [], plain_program(text)
    for _ in range(many):
        turn = any_turn(chance, program)
        try:
            program = turned(text, program, turn)
            turns.append(turn)
        except (NoTurn, TooMany):
            pass
    return turns, program
