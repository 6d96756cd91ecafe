"""The names of records for judging, and the order of names and records."""

SMALL_LETTERS = "abcdefghijklmnopqrstuvwxyz"


def is_small_part(part):
    """Whether a part of a name consists of small letters."""
    return part != "" and all(sign in SMALL_LETTERS for sign in part)


def is_record_name(name):
    """Whether a text is a name of records."""
    if name == "":
        return True
    parts = name.split(".")
    return parts[0] != "root" and all(is_small_part(part) for part in parts)


def written_name(name):
    """The name that stands in records of this name."""
    return "root" if name == "" else name


def line_up(name):
    """The name itself, then its beginnings ahead of points, the longest one first, at last the empty one."""
    names = [name]
    while name != "":
        name = name.rpartition(".")[0]
        names.append(name)
    return names


def name_order(name):
    """What the order of names goes by."""
    parts = 0 if name == "" else name.count(".") + 1
    return (parts, len(name), name)


def next_word(word):
    """The text of small letters that follows upon a text: by its length, then by itself."""
    last = SMALL_LETTERS[-1]
    kept = word.rstrip(last)
    if kept == "":
        return SMALL_LETTERS[0] * (len(word) + 1)
    raised = SMALL_LETTERS[SMALL_LETTERS.index(kept[-1]) + 1]
    return kept[:-1] + raised + SMALL_LETTERS[0] * (len(word) - len(kept))
