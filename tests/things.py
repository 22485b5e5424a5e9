"""Things of many kinds, to be handed in where anything may be, and expressions and texts made by chance."""

from fractions import Fraction

GREAT = 10 ** 40 + 7
# The greatest number that is read where it is written.
THIRTY = 10 ** 30 - 1


def things():
    """A new list of things of every built-in kind, none of which is a name, a letter, a worth but True, False,
    a term, a text or a deed."""
    return [
        None, 0, 1, -1, 2, GREAT, -GREAT,
        "", " ", "A", "7", "number!", "Number", "toolong",
        b"", b"a", bytearray(b"a"), memoryview(b"a"),
        [], [1], [1, 2], ["a"], [[]], [(), ()], [[], []], ["arg", 0], ["number", 1, 1],
        (1,), ("a",), (None, None), (1, 2, 3), ("a", "b"), ((), (), ()), ([], []), ((), []), ([], ()),
        (1, (2, (3, (4, (5, (6, (7, (8, (9, ())))))))),),
        {}, {"a": 1}, {1: 2}, {(): ()}, {"inputs": (), "rows": ()},
        set(), {1, 2}, {"a"}, frozenset(), frozenset(["a"]),
        range(0), range(2), slice(1), Ellipsis, NotImplemented,
        int, str, tuple, len, print, things, lambda: 0, object(), ValueError("a"), (each for each in "ab"), iter("ab"),
        [[[[[[[[[[]]]]]]]]]], {"a": [{"b": ({},)}]},
    ]


def many_things():
    """The things, and True and False."""
    return [True, False] + things()


# By each operation's word what it is by the kinds of its parts: n a number, t a truth.
SIGNATURES = {
    "plus": {"nn": "n"}, "minus": {"nn": "n"}, "times": {"nn": "n"}, "over": {"nn": "n"},
    "least": {"nn": "n"}, "most": {"nn": "n"}, "less": {"nn": "t"}, "like": {"nn": "t", "tt": "t"},
    "not": {"t": "t"}, "and": {"tt": "t"}, "or": {"tt": "t"}, "if": {"tnn": "n", "ttt": "t"},
}
KINDS = {"n": "number", "t": "truth"}


def any_worth(chance, kind):
    if kind == "truth":
        return chance.random() < 0.5
    value = Fraction(chance.randint(-3, 3), chance.randint(1, 3))
    return (value.numerator, value.denominator)


def any_leaf(chance, kind):
    worth = any_worth(chance, kind)
    return ("truth", worth) if kind == "truth" else ("number", *worth)


def any_expression(chance, kind, deep, kinds):
    """An expression of a kind by the args' kinds, no more than so many within one another, by chance."""
    args = [at for at, each in enumerate(kinds) if each == kind]
    if deep == 1 or chance.random() < 0.2:
        return ("arg", chance.choice(args)) if args and chance.random() < 0.6 else any_leaf(chance, kind)
    word, parts = chance.choice([
        (word, parts) for word, each in SIGNATURES.items() for parts, told in each.items() if KINDS[told] == kind])
    return (word, *[any_expression(chance, KINDS[part], deep - 1, kinds) for part in parts])


def any_length(chance):
    parts = [(letter, chance.choice([1, 1, 2, 3, THIRTY])) for letter in sorted(chance.sample("kmnz", chance.randint(0, 2)))]
    return (chance.choice([0, 0, 1, 5, THIRTY]), tuple(parts))


def any_shape(chance, rank):
    return tuple(any_length(chance) for _ in range(rank))


def any_text(chance):
    """A text by chance, and a dict from its names, in order, to tuples (kind, rank)."""
    names = chance.sample(
        ["a", "b", "zz", "input", "of", "from", "by", "map", "number", "truth", "yes", "no", "n", "m", "plus", "put", "abcdef",
         "x", "y", "count"], 18)
    known = {}
    inputs = []
    for _ in range(chance.randint(0, 6)):
        name, kind, rank = names.pop(), chance.choice(["number", "truth"]), chance.randint(0, 3)
        known[name] = (kind, rank)
        inputs.append((name, kind, any_shape(chance, rank)))
    rows = []
    for _ in range(chance.randint(0, 12)):
        deed, made = any_deed(chance, known)
        name = names.pop()
        known[name] = made
        rows.append((name, deed))
    return (tuple(inputs), tuple(rows)), known


def any_deed(chance, known):
    """A deed by chance, by the names ahead, and the (kind, rank) of what it makes."""
    words = ["map", "spread", "turn", "part", "join", "fold", "run", "where", "pick", "put"]
    chance.shuffle(words)
    for word in words:
        found = DEEDS[word](chance, known)
        if found is not None:
            return found
    rank = chance.randint(1, 3)
    return ("count", any_shape(chance, rank), chance.randrange(rank)), ("number", rank)


def named(chance, known, fits):
    """A name ahead by chance, of those whose kind and rank fit, or None."""
    names = [name for name, (kind, rank) in known.items() if fits(kind, rank)]
    return chance.choice(names) if names else None


def any_map(chance, known):
    one = named(chance, known, lambda kind, rank: True)
    if one is None:
        return None
    own = known[one][1]
    sources = [one] + [named(chance, known, lambda kind, rank: rank == own) for _ in range(chance.randint(0, 2))]
    kind = chance.choice(["number", "truth"])
    kinds = [known[source][0] for source in sources]
    return ("map", any_expression(chance, kind, chance.randint(1, 4), kinds), tuple(sources)), (kind, own)


def any_spread(chance, known):
    source = named(chance, known, lambda kind, rank: rank < 3)
    if source is None:
        return None
    kind, rank = known[source]
    return ("spread", source, chance.randint(0, rank), any_length(chance)), (kind, rank + 1)


def any_turn(chance, known):
    source = named(chance, known, lambda kind, rank: True)
    if source is None:
        return None
    return ("turn", source, tuple(chance.sample(range(known[source][1]), known[source][1]))), known[source]


def any_part(chance, known):
    source = named(chance, known, lambda kind, rank: rank > 0)
    if source is None:
        return None
    return ("part", source, chance.randrange(known[source][1]), any_length(chance), any_length(chance)), known[source]


def any_join(chance, known):
    one = named(chance, known, lambda kind, rank: rank > 0)
    if one is None:
        return None
    other = named(chance, known, lambda kind, rank: (kind, rank) == known[one])
    return ("join", one, other, chance.randrange(known[one][1])), known[one]


def any_run(chance, known, word="run"):
    source = named(chance, known, lambda kind, rank: rank > 0)
    if source is None:
        return None
    of, rank = known[source]
    kind = chance.choice(["number", "truth"])
    deed = (word, any_expression(chance, kind, 3, [kind, of]), any_worth(chance, kind), source, chance.randrange(rank))
    return deed, (kind, rank - 1 if word == "fold" else rank)


def any_fold(chance, known):
    return any_run(chance, known, "fold")


def any_where(chance, known):
    truths = named(chance, known, lambda kind, rank: kind == "truth")
    if truths is None:
        return None
    one = named(chance, known, lambda kind, rank: rank == known[truths][1])
    other = named(chance, known, lambda kind, rank: (kind, rank) == known[one])
    return ("where", truths, one, other), known[one]


def any_pick(chance, known):
    source = named(chance, known, lambda kind, rank: rank > 0)
    if source is None:
        return None
    kind, own = known[source]
    numbers = named(chance, known, lambda kind, rank: kind == "number" and own + rank - 1 <= 3)
    return None if numbers is None else (("pick", source, numbers), (kind, own + known[numbers][1] - 1))


def any_put(chance, known):
    source = named(chance, known, lambda kind, rank: rank == 1)
    numbers = named(chance, known, lambda kind, rank: (kind, rank) == ("number", 1))
    if source is None or numbers is None:
        return None
    kind = known[source][0]
    values = named(chance, known, lambda own, rank: (own, rank) == (kind, 1))
    expression = any_expression(chance, kind, 3, [kind, kind]) if chance.random() < 0.5 else None
    return ("put", source, numbers, values, expression), (kind, 1)


DEEDS = {
    "map": any_map, "spread": any_spread, "turn": any_turn, "part": any_part, "join": any_join,
    "fold": any_fold, "run": any_run, "where": any_where, "pick": any_pick, "put": any_put,
}
