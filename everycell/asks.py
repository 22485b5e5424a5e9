"""Asks: the rows that a desk is told, how they are written and read, and how what it answers is written."""

from everycell.errors import NoRow
from everycell.names import is_letter, is_name
from everycell.signs import shown
from everycell.words import read_figures, read_worth, shown_worth
from everycell.worths import is_worth

# By the first word of each row but text and turn the forms of the words behind it; words that are no form's name
# stand there themselves.
FORMS = {
    "show": ("name",), "fits": ("name",), "drop": ("name",), "names": (), "begin": ("name", "lengths", "inputs"),
    "cell": ("name", "name", "cell"), "array": ("name", "name"), "near": ("name", "name", "cell"),
    "through": ("name", "name", "cell"), "whither": ("name", "name", "cell"),
    "change": ("name", "name", "cell", "to", "worth"), "back": ("name",), "made": ("name",), "fault": ("name",),
    "run": ("name", "number", "number", "number"),
}


def read_ask(row):
    """Tells a tuple of the first word of a row and what the others write; refuses, with NoRow, what has no form."""
    if not isinstance(row, str) or "\n" in row:
        raise NoRow("a row is a text without a line feed")
    words = row.split(" ")
    word = words[0]
    if word in ("text", "turn"):
        return _read_signs(word, row)
    if word not in FORMS or len(words) != len(FORMS[word]) + 1:
        raise NoRow("no row has these words")
    parts = [_read_part(form, each) for form, each in zip(FORMS[word], words[1:])]
    if None in parts:
        raise NoRow("a word of the row is not written so")
    return (word, *[part for form, part in zip(FORMS[word], parts) if form in READS])


def shown_signs(text):
    """Tells how a text is written in one row."""
    return shown(text).replace("\n", "; ") or "-"


def shown_cell(cell):
    """Tells how a cell is written."""
    return ",".join([str(at) for at in cell]) or "-"


def shown_cells(cells):
    """Tells how a list of tuples (name, cell) is written."""
    return shown_names([f"{name}:{shown_cell(cell)}" for name, cell in cells])


def shown_names(names):
    """Tells how a list of words is written."""
    return " ".join(names) or "-"


def shown_array(cells, array):
    """Tells how the worths of all these cells are written, of which those that have one stand in an array."""
    return ",".join([shown_worth(array[cell]) if cell in array else "?" for cell in cells]) or "-"


def _read_signs(word, row):
    """Tells what a row of a name and signs writes, the signs just as they stand."""
    words = row.split(" ", 2)
    if len(words) < 3 or not is_name(words[1]):
        raise NoRow("a name, a blank and signs have to stand behind the word")
    return (word, words[1], words[2].replace("; ", "\n"))


# Each of these tells what a word writes, or None where it has not the form.


def _read_part(form, word):
    if form not in READS:
        return word if word == form else None
    look = READS[form]
    return look(word)


def _read_name(word):
    return word if is_name(word) else None


def _read_number(word):
    return read_figures(word)


def _read_worth(word):
    worth = read_worth(word)
    return worth if is_worth(worth) else None


def _read_cell(word):
    cell = [] if word == "-" else [read_figures(figures) for figures in word.split(",")]
    return None if None in cell else tuple(cell)


def _read_lengths(word):
    pairs = _read_pairs(word, ",")
    if pairs is None or not all([is_letter(letter) for letter, _ in pairs]):
        return None
    lengths = {letter: read_figures(figures) for letter, figures in pairs}
    return None if None in list(lengths.values()) else lengths


def _read_inputs(word):
    """Tells a dict from names to lists of worths."""
    pairs = _read_pairs(word, ";")
    if pairs is None or not all([is_name(name) for name, _ in pairs]):
        return None
    inputs = {name: _read_worths(signs) for name, signs in pairs}
    return None if None in list(inputs.values()) else inputs


def _read_worths(word):
    worths = [_read_worth(each) for each in word.split(",")] if word else []
    return None if None in worths else worths


def _read_pairs(word, sign):
    """Tells a list of tuples, what stands ahead of each = and behind it, no two alike ahead; none where there is -."""
    if word == "-":
        return []
    pairs = []
    for each in word.split(sign):
        name, is_there, behind = each.partition("=")
        if not is_there or name in [other for other, _ in pairs]:
            return None
        pairs.append((name, behind))
    return pairs


READS = {
    "name": _read_name, "number": _read_number, "worth": _read_worth, "cell": _read_cell,
    "lengths": _read_lengths, "inputs": _read_inputs,
}
