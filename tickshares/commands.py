"""Commands of the console: what forms they have, and what stands in them."""

from tickshares.rules import is_rule
from tickshares.values import is_name

DIGITS = "0123456789"
MOST_DIGITS = 60
MOST_NUMBER = 10 ** 60


def parts_of(command):
    """The tuple of the word of the command and of what it tells, None if it has none of the forms."""
    if not isinstance(command, str):
        return None
    head, newline, text = command.partition("\n")
    words = head.split(" ")
    if newline:
        return ("put", words[1], text) if len(words) == 2 and words[0] == "put" and is_name(words[1]) else None
    many = 2 if words[0] == "promise" else 1
    form = " ".join(words[:many])
    if form not in FORMS or len(words) != many + len(FORMS[form]):
        return None
    told = [_read(kind, word) for kind, word in zip(FORMS[form], words[many:])]
    if None in told:
        return None
    return (*words[:many], *told)


def _read(kind, word):
    """What the word tells if it is one of this kind, otherwise None."""
    reader = READERS[kind]
    return reader(word)


def _read_name(word):
    """The name."""
    return word if is_name(word) else None


def _read_rule(word):
    """The rule."""
    return word if is_rule(word) else None


def _read_number(word):
    """The number, as far as it may stand in a promise."""
    number = _read_digits(word, MOST_DIGITS + 1)
    return number if number is not None and number <= MOST_NUMBER else None


def _read_share(word):
    """The pair of any numbers that is written as a share."""
    numbers = [_read_digits(part, MOST_DIGITS) for part in word.split("/")]
    return tuple(numbers) if len(numbers) == 2 and None not in numbers else None


def _read_digits(word, most):
    """The number that is written in decimal digits, up to so many, and without needless zeros."""
    if not 1 <= len(word) <= most or not all([sign in DIGITS for sign in word]):
        return None
    if len(word) > 1 and word[0] == "0":
        return None
    return int(word)


READERS = {"name": _read_name, "rule": _read_rule, "number": _read_number, "share": _read_share}

# What stands behind the words of each form; `put` is none of them, for it goes on behind a newline.
FORMS = {
    "work": ("name", "name", "share"),
    "remove": ("name",),
    "undo": (),
    "promise fits": ("name",),
    "promise rule": ("name", "rule"),
    "promise tables": ("name", "number"),
    "promise starts": ("name", "number"),
    "total": ("name",),
    "tables": ("name",),
    "starts": ("name",),
    "missed": ("name", "rule"),
    "table": ("name", "rule"),
    "lots": (),
    "promises": (),
}
