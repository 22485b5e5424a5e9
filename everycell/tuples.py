"""Tuples with one thing put in, exchanged or left out."""


def with_put_in(things, at, thing):
    """Tells a tuple with a thing put in, so that it stands at this place."""
    return (*things[:at], thing, *things[at:])


def with_exchanged(things, at, thing):
    """Tells a tuple with another thing at a place."""
    return (*things[:at], thing, *things[at + 1:])


def without(things, at):
    """Tells a tuple without what stands at a place."""
    return (*things[:at], *things[at + 1:])
