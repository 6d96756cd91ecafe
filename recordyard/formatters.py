"""Formatters: the class of the objects that make lines of records."""

from recordyard.errors import BadField, BadFormat, BadStyle
from recordyard.formats import Field, brace_pieces, dollar_pieces, is_style, joined
from recordyard.kinds import own_copy
from recordyard.times import time_text


class Formatter:
    """Makes texts of records by a format; pieces are the texts and fields of which this consists."""

    def __init__(self, fmt=None, style="{", validate=True, defaults=None):
        if not is_style(style):
            raise BadStyle(style)
        self.pieces = pieces_of(fmt, style)
        self.defaults = {} if defaults is None else own_copy(defaults)
        if validate and not self.fields():
            raise BadFormat(fmt)

    def formatted(self, record):
        """The text that the format makes of a record."""
        parts = []
        for piece in self.pieces:
            if isinstance(piece, Field):
                parts.append(piece.written(self.value(record, piece.name)))
            else:
                parts.append(piece)
        return "".join(parts)

    def value(self, record, name):
        """The value of a field for a record."""
        if name == "asctime":
            return time_text(record.created)
        try:
            return record.field(name)
        except BadField:
            if name not in self.defaults:
                raise
        return self.defaults[name]

    def uses_time(self):
        """Whether the format shows the time."""
        return "asctime" in self.fields()

    def fields(self):
        """The names of the fields, from the left."""
        return tuple([piece.name for piece in self.pieces if isinstance(piece, Field)])


def pieces_of(fmt, style):
    """The pieces of a format in this style."""
    if fmt is None:
        return [Field("message")]
    if not isinstance(fmt, str):
        raise BadFormat(fmt)
    if style == "{":
        return joined(brace_pieces(fmt))
    return joined(dollar_pieces(fmt))
