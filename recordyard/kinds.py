"""Kinds of values: which ones are integers and names, and copies of objects of any kind."""

LETTERS = "abcdefghijklmnopqrstuvwxyzABCDEFGHIJKLMNOPQRSTUVWXYZ"
DIGITS = "0123456789"


def is_integer(thing):
    """Whether thing is an integer; True and False are none."""
    return isinstance(thing, int) and not isinstance(thing, bool)


def is_word_sign(sign):
    """Whether a sign is one of those of which names consist."""
    return sign in LETTERS or sign in DIGITS or sign == "_"


def is_part(text):
    """Whether text is a part of a logger's name."""
    return text != "" and all(is_word_sign(sign) for sign in text)


def is_dotted(thing):
    """Whether thing is a string of parts with points between."""
    return isinstance(thing, str) and all(is_part(part) for part in thing.split("."))


def is_logger_name(thing):
    """Whether thing is a name of a logger, also one of the root's."""
    return thing == "" or is_dotted(thing)


def leading_name(text):
    """The longest name of a field with which text begins, or an empty string."""
    end = 0
    while end < len(text) and is_word_sign(text[end]):
        end += 1
    return "" if text[:1] in DIGITS else text[:end]


def own_copy(thing):
    """A copy of an object of any kind that shares no list and no dict with it."""
    # Loops, as a comprehension would take two calls for each level of what is nested deep.
    if isinstance(thing, dict):
        table = {}
        for key in thing:
            table[key] = own_copy(thing[key])
        return table
    if isinstance(thing, (list, tuple)):
        row = []
        for item in thing:
            row.append(own_copy(item))
        return row if isinstance(thing, list) else tuple(row)
    return thing
