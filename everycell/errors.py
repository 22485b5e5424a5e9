"""The refusals of the package: what is refused is told by one of these, with the values that say why."""


class CellError(ValueError):
    """What most refusals stand under."""


class NoText(CellError):
    """A thing that is no text: the part by which it is none, and the number there, or None."""

    def __init__(self, part, number):
        self.part = part
        self.number = number


class NoTurn(CellError):
    """A turn that a program does not take: why."""

    def __init__(self, why):
        self.why = why


class NoLengths(CellError):
    """Lengths that are none: the letter by which, or None."""

    def __init__(self, name):
        self.name = name


class NoInputs(CellError):
    """Inputs that are none: the input's name by which, or None."""

    def __init__(self, name):
        self.name = name


class NoFit(CellError):
    """A text that does not fit: the first row by which it doesn't."""

    def __init__(self, row):
        self.row = row


class NoLanes(CellError):
    """A number of lanes, a size of blocks or of a store that is none: what it was to be."""

    def __init__(self, what):
        self.what = what


class NoSigns(CellError):
    """Signs by which no text is written: the first row of no form."""

    def __init__(self, row):
        self.row = row


class NoStop(CellError):
    """A thing that is no stop, or no stop's number."""

    def __init__(self, thing):
        self.thing = thing


class NoOrder(CellError):
    """An order of rows that is none: the first row that stands too early, or None."""

    def __init__(self, number):
        self.number = number


class NoTerm(CellError):
    """A thing that is no term."""


class NoWorth(CellError):
    """A thing that is no worth, or none of the kind that is due."""


class NoProgram(CellError):
    """A thing that is no program that is right."""


class NoRow(CellError):
    """A row that a desk does not know."""


class NoCell(IndexError):
    """A thing that is no cell of a name."""

    def __init__(self, name, cell):
        self.name = name
        self.cell = cell


class NoName(KeyError):
    """A thing that is no name there."""

    def __init__(self, name):
        self.name = name


class TooMany(OverflowError):
    """More than there may be: how many."""

    def __init__(self, many):
        self.many = many


class Faulty(RuntimeError):
    """A cell that has no worth: its name, itself, and the word of the fault."""

    def __init__(self, name, cell, word):
        self.name = name
        self.cell = cell
        self.word = word


class Bare(RuntimeError):
    """Nothing is there to be done or taken back."""
