"""Index terms: a const and so many times each name's number, reckoned with."""


def constant(number):
    """Tells the index term that is a whole number."""
    return (number, ())


def of_name(name):
    """Tells the index term that is a name's number."""
    return (0, ((name, 1),))


def added(one, other):
    """Tells the sum of two index terms."""
    return _gathered(one[0] + other[0], [*one[1], *other[1]])


def scaled(term, many):
    """Tells an index term so many times."""
    return _gathered(term[0] * many, [(name, count * many) for name, count in term[1]])


def taken(one, other):
    """Tells the first index term less the other."""
    return added(one, scaled(other, -1))


def put_in(term, by):
    """Tells an index term with names, all at once, exchanged for index terms by a dict."""
    const = term[0]
    parts = []
    for name, many in term[1]:
        instead = scaled(by.get(name, of_name(name)), many)
        const += instead[0]
        parts.extend(list(instead[1]))
    return _gathered(const, parts)


def worth_of(term, numbers):
    """Tells the worth of an index term by whole numbers for all its names."""
    return term[0] + sum([many * numbers[name] for name, many in term[1]])


def is_nought(term):
    """Tells whether an index term is nought for all numbers."""
    return term == (0, ())


def is_from_nought(term):
    """Tells whether an index term is nought or more for all numbers from 0 on."""
    return term[0] >= 0 and all([many >= 0 for _, many in term[1]])


def _gathered(const, parts):
    """Tells the index term of a const and parts, in which names may stand often and in any order."""
    manys = {}
    for name, many in parts:
        manys[name] = manys.get(name, 0) + many
    return (const, tuple([(name, manys[name]) for name in sorted(manys) if manys[name] != 0]))
