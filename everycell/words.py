"""How numbers, lengths, worths and expressions are written, and read where what is written has their form.

What has the form need not be one of them: what is read still has to be looked at.
"""

from everycell.expressions import OPERATIONS
from everycell.names import is_letter

MOST_FIGURES = 30


def shown_length(length):
    """Tells how a length is written."""
    const, parts = length
    words = [name if many == 1 else f"{many}*{name}" for name, many in parts]
    return "+".join(words if words and const == 0 else [str(const), *words])


def shown_worth(worth):
    """Tells how a worth is written."""
    if isinstance(worth, bool):
        return "yes" if worth else "no"
    top, bottom = worth
    return str(top) if bottom == 1 else f"{top}/{bottom}"


def shown_expression(expression):
    """Tells how an expression is written."""
    word = expression[0]
    if word == "arg":
        return f"@{expression[1]}"
    if word == "number":
        return shown_worth(expression[1:])
    if word == "truth":
        return shown_worth(expression[1])
    return " ".join([word, *[shown_expression(part) for part in expression[1:]]])


def read_figures(word):
    """Tells the whole number from 0 on that a word writes, or None."""
    if not 1 <= len(word) <= MOST_FIGURES or not all(["0" <= sign <= "9" for sign in word]):
        return None
    return None if word[0] == "0" and len(word) > 1 else int(word)


def read_length(word):
    """Tells the length, or what has the form of one, that a word writes, or None."""
    words = word.split("+")
    const = read_figures(words[0])
    if const is None:
        const = 0
    elif const == 0 and len(words) > 1:
        return None
    else:
        words = words[1:]
    parts = [_read_part(part) for part in words]
    return None if None in parts else (const, tuple(parts))


def _read_part(word):
    """Tells the tuple (name, many) that a word between the + of a length writes, or None."""
    if is_letter(word):
        return (word, 1)
    figures, _, name = word.partition("*")
    many = read_figures(figures)
    return (name, many) if many is not None and many != 1 and is_letter(name) else None


def read_worth(word):
    """Tells the worth, or the tuple that has a number's form, that a word writes, or None."""
    if word in ("yes", "no"):
        return word == "yes"
    top, sign, bottom = word.partition("/")
    one = _read_whole(top)
    # The - stands ahead of the number, so never within it.
    other = read_figures(bottom) if sign else 1
    if one is None or other is None or (sign and other == 1):
        return None
    return (one, other)


def _read_whole(word):
    """Tells the whole number that a word writes, with - ahead where it is below 0, or None."""
    if not word.startswith("-"):
        return read_figures(word)
    figures = read_figures(word[1:])
    return -figures if figures else None


def read_expression(words):
    """Tells the expression, or what has the form of one, that a list of words writes, or None."""
    # From the end on, as parts stand behind their operation: however deep it is, nothing calls itself.
    parts = []
    for word in reversed(words):
        many = OPERATIONS.get(word, 0)
        if many > len(parts):
            return None
        # The last one found is the first one behind the word.
        behind = [parts.pop() for _ in range(many)]
        made = (word, *behind) if behind else _read_leaf(word)
        if made is None:
            return None
        parts.append(made)
    return parts[0] if len(parts) == 1 else None


def _read_leaf(word):
    """Tells the arg, number or truth that a word writes, or None."""
    if word.startswith("@"):
        at = read_figures(word[1:])
        return None if at is None else ("arg", at)
    worth = read_worth(word)
    if worth is None:
        return None
    return ("truth", worth) if isinstance(worth, bool) else ("number", *worth)
