"""Signs: how a text is written, and read back."""

from everycell.errors import NoSigns
from everycell.names import is_name
from everycell.texts import KINDS, look_at_text
from everycell.words import (
    read_expression, read_figures, read_length, read_worth, shown_expression, shown_length, shown_worth,
)


def shown(text):
    """Tells the signs by which a text is written."""
    look_at_text(text)
    inputs, rows = text
    lines = [_shown_input(name, kind, shape) for name, kind, shape in inputs]
    lines.extend([f"{name} = {_shown_deed(deed)}" for name, deed in rows])
    return "\n".join(lines)


def read(signs):
    """Tells the text that is written so; NoSigns of what has not the form, NoText of what is none."""
    if not isinstance(signs, str):
        raise NoSigns(0)
    inputs = []
    rows = []
    lines = signs.split("\n") if signs else []
    for number, line in enumerate(lines):
        words = line.split(" ")
        is_row = words[1:2] == ["="]
        found = _read_row(words) if is_row else _read_input(words)
        if found is None or (rows and not is_row):
            raise NoSigns(number)
        if is_row:
            rows.append(found)
        else:
            inputs.append(found)
    text = (tuple(inputs), tuple(rows))
    look_at_text(text)
    return text


def _shown_input(name, kind, shape):
    return " ".join(["input", name, kind, *[shown_length(length) for length in shape]])


def _shown_deed(deed):
    word = deed[0]
    parts = deed[1:]
    if word in PLAIN:
        forms = PLAIN[word]
        return " ".join([word, *[_shown_part(form, part) for form, part in zip(forms, parts)]])
    show = SHOWS[word]
    behind = show(*parts)
    return " ".join([word, *behind])


def _shown_part(form, part):
    """Tells how a part of one of the forms name, number, length or order is written."""
    if form == "length":
        return shown_length(part)
    if form == "order":
        return ",".join([str(axis) for axis in part]) if part else "-"
    return str(part)


def _shown_map(expression, sources):
    return [shown_expression(expression), "of", *sources]


def _shown_count(shape, axis):
    return [str(axis), "of", *[shown_length(length) for length in shape]]


def _shown_fold(expression, begin, source, axis):
    return [shown_expression(expression), "from", shown_worth(begin), "of", source, str(axis)]


def _shown_put(source, numbers, values, expression):
    behind = [] if expression is None else ["by", shown_expression(expression)]
    return [source, numbers, values, *behind]


def _read_input(words):
    """Tells the input that a list of words has the form of, or None."""
    if len(words) < 3 or words[0] != "input" or not is_name(words[1]) or words[2] not in KINDS:
        return None
    lengths = [read_length(word) for word in words[3:]]
    return None if None in lengths else (words[1], words[2], tuple(lengths))


def _read_row(words):
    """Tells the tuple (name, deed) that a list of words, the second one =, has the form of, or None."""
    if len(words) < 3 or not is_name(words[0]):
        return None
    word = words[2]
    if word in PLAIN:
        parts = _read_parts(PLAIN[word], words[3:])
    elif word in READS:
        look = READS[word]
        parts = look(words[3:])
    else:
        return None
    return None if parts is None else (words[0], (word, *parts))


def _read_parts(forms, words):
    """Tells the list of parts of these forms that as many words write, or None."""
    if len(forms) != len(words):
        return None
    parts = [_read_part(form, word) for form, word in zip(forms, words)]
    return None if None in parts else parts


def _read_part(form, word):
    """Tells the part of one of the forms name, number, length or order that a word writes, or None."""
    if form == "name":
        return word if is_name(word) else None
    if form == "length":
        return read_length(word)
    return _read_order(word) if form == "order" else read_figures(word)


def _read_order(word):
    order = [] if word == "-" else [read_figures(figures) for figures in word.split(",")]
    return None if None in order else tuple(order)


def _read_map(words):
    if "of" not in words:
        return None
    # No expression has the word of, though a source may be called so.
    at = words.index("of")
    expression = read_expression(words[:at])
    sources = words[at + 1:]
    if expression is None or not all([is_name(source) for source in sources]):
        return None
    return [expression, tuple(sources)]


def _read_count(words):
    if words[1:2] != ["of"]:
        return None
    axis = read_figures(words[0])
    lengths = [read_length(word) for word in words[2:]]
    return None if axis is None or None in lengths else [tuple(lengths), axis]


def _read_fold(words):
    # From the end on, where as many words stand in each, however long the expression is.
    if len(words) < 5 or words[-5] != "from" or words[-3] != "of":
        return None
    expression = read_expression(words[:-5])
    begin = read_worth(words[-4])
    behind = _read_parts(("name", "number"), words[-2:])
    return None if expression is None or begin is None or behind is None else [expression, begin, *behind]


def _read_put(words):
    names = _read_parts(("name", "name", "name"), words[:3])
    if names is None or len(words) == 3:
        return None if names is None else [*names, None]
    expression = read_expression(words[4:])
    return None if words[3] != "by" or expression is None else [*names, expression]


# By the words of those deeds that are written part by part the forms of these.
PLAIN = {
    "spread": ("name", "number", "length"), "turn": ("name", "order"),
    "part": ("name", "number", "length", "length"), "join": ("name", "name", "number"),
    "where": ("name", "name", "name"), "pick": ("name", "name"),
}
# By the words of the others what writes their parts, as a list of words, and what reads them.
SHOWS = {"map": _shown_map, "count": _shown_count, "fold": _shown_fold, "run": _shown_fold, "put": _shown_put}
READS = {"map": _read_map, "count": _read_count, "fold": _read_fold, "run": _read_fold, "put": _read_put}
