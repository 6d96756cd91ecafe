"""How formats are read: as lists of texts and fields."""

from recordyard.errors import BadFormat
from recordyard.kinds import DIGITS, is_integer, leading_name

ALIGNS = ("<", ">", "^")


def is_style(thing):
    """Whether thing is a style of formats."""
    return thing == "{" or thing == "$"


class Field:
    """A place in a format for a value: way is r, s or empty; align and width 0 may be missing."""

    def __init__(self, name, way="", fill=" ", align="", width=0):
        self.name = name
        self.way = way
        self.fill = fill
        self.align = align
        self.width = width

    def written(self, value):
        """The value as the field shows it."""
        text = repr(value) if self.way == "r" else str(value)
        lacking = max(0, self.width - len(text))
        align = self.align
        if align == "":
            align = ">" if self.way == "" and is_integer(value) else "<"
        left = 0
        if align == ">":
            left = lacking
        elif align == "^":
            left = lacking // 2
        return self.fill * left + text + self.fill * (lacking - left)


def brace_pieces(fmt):
    """The texts and fields of a format in the style of braces."""
    pieces = []
    at = 0
    while at < len(fmt):
        pair = fmt[at:at + 2]
        if pair == "{{" or pair == "}}":
            pieces.append(fmt[at])
            at += 2
        elif fmt[at] == "{":
            end = fmt.find("}", at)
            field = brace_field(fmt[at + 1:end]) if end > 0 else None
            if field is None:
                raise BadFormat(fmt)
            pieces.append(field)
            at = end + 1
        elif fmt[at] == "}":
            raise BadFormat(fmt)
        else:
            pieces.append(fmt[at])
            at += 1
    return pieces


def brace_field(inner):
    """The field that stands as inner between braces, or None if it is none."""
    name = leading_name(inner)
    rest = inner[len(name):]
    way = ""
    if rest.startswith("!r") or rest.startswith("!s"):
        way = rest[1]
        rest = rest[2:]
    if name == "":
        return None
    if rest == "":
        return Field(name, way)
    if rest[0] != ":" or rest == ":":
        return None
    fill, align, digits = split_spec(rest[1:])
    if fill == "{" or not is_width(digits):
        return None
    return Field(name, way, fill, align, 0 if digits == "" else int(digits))


def split_spec(spec):
    """Fill and align of a spec, and what stands behind them."""
    if spec[1:2] in ALIGNS:
        return spec[0], spec[1], spec[2:]
    if spec[0] in ALIGNS:
        return " ", spec[0], spec[1:]
    return " ", "", spec


def is_width(digits):
    """Whether digits are a width, or none at all."""
    return len(digits) < 3 and not digits.startswith("0") and all(sign in DIGITS for sign in digits)


def dollar_pieces(fmt):
    """The texts and fields of a format in the style of dollars."""
    pieces = []
    at = 0
    while at < len(fmt):
        if fmt[at] != "$":
            pieces.append(fmt[at])
            at += 1
        elif fmt[at + 1:at + 2] == "$":
            pieces.append("$")
            at += 2
        else:
            name, at = dollar_name(fmt, at + 1)
            if name == "":
                raise BadFormat(fmt)
            pieces.append(Field(name))
    return pieces


def dollar_name(fmt, start):
    """The name behind a dollar, with or without braces, or an empty one; and where the format goes on."""
    if fmt[start:start + 1] != "{":
        name = leading_name(fmt[start:])
        return name, start + len(name)
    name = leading_name(fmt[start + 1:])
    end = start + 1 + len(name)
    if fmt[end:end + 1] != "}":
        return "", end
    return name, end + 1


def joined(pieces):
    """The pieces with neighbouring texts made one, so that formatting has less to do."""
    out = []
    for piece in pieces:
        if isinstance(piece, str) and out and isinstance(out[-1], str):
            out[-1] = out[-1] + piece
        else:
            out.append(piece)
    return out
