"""The parts of terms: counted, compared, gone through."""

# By the words of those terms that are no operations where terms stand in them, and how many folds and puts more
# stand around these.
PARTS = {
    "read": (), "number": (), "truth": (), "count": (), "below": ((3, 0), (4, 0)), "fold": ((5, 1),),
    "pick": ((2, 0),), "put": ((3, 1), (6, 0), (7, 1)), "carry": ((4, 0),),
}
# No term with more parts is ever gone through.
MOST_PARTS = 1000000


def parts_at(term):
    """Tells tuples (place, more) of where terms stand in a term, and how many folds and puts more stand around each."""
    if term[0] in PARTS:
        return PARTS[term[0]]
    return tuple([(at, 0) for at in range(1, len(term))])


def many_parts(thing, most=MOST_PARTS):
    """Tells how many tuples stand in anything, itself one of them, or some number above most where there are more."""
    many = 0
    waiting = [thing] if isinstance(thing, tuple) else []
    # Those that wait count, too: a few tuples may stand in so many places that going through all takes forever.
    while waiting and many + len(waiting) <= most:
        many += 1
        each = waiting.pop()
        waiting.extend([part for part in each if isinstance(part, tuple)])
    return many + len(waiting)


def is_same(due, thing):
    """Tells whether a thing is just what is due, with no truth for a number; no further than what is due goes."""
    waiting = [(due, thing)]
    while waiting:
        one, other = waiting.pop()
        is_alike = type(one) is type(other)
        if is_alike and isinstance(one, tuple):
            is_alike = len(one) == len(other)
            waiting.extend(list(zip(one, other)))
        elif is_alike:
            is_alike = one == other
        if not is_alike:
            return False
    return True


def reads_in(term):
    """Tells a list of all reads in a term, each as often as it stands."""
    reads = []
    waiting = [term]
    while waiting:
        each = waiting.pop()
        if each[0] == "read":
            reads.append(each)
        waiting.extend([each[at] for at, _ in parts_at(each)])
    return reads


def asked_in(term, cell):
    """Tells a dict from the names that a term reads or picks from to whether it just reads them, at this cell alone."""
    asked = {}
    waiting = [term]
    while waiting:
        each = waiting.pop()
        if each[0] in ("read", "pick"):
            name = each[1]
            asked[name] = asked.get(name, True) and each == ("read", name, cell)
        waiting.extend([each[at] for at, _ in parts_at(each)])
    return asked
