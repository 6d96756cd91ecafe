"""Which yards are judged, and what is written at them for a record."""

from recordyard.errors import NotJudged
from recordyard.filters import Filter
from recordyard.formats import Field
from recordyard.forms import FIELD_MARKS, MESSAGE_MARK, NAME_MARK, filled, text_of_form
from recordyard.handlers import NullHandler, StreamHandler
from recordyard.orders import written_name
from recordyard.sights import sight_of


def offence(yard):
    """The path of the first thing for which a yard is not judged, or None."""
    for name, logger in yard.tree.roll():
        path = strange_filter((name,), logger.filters)
        if path is not None:
            return path
        for place, handler in enumerate(logger.handlers):
            path = strange_handler((name, "handlers", place), handler)
            if path is not None:
                return path
    return None


def strange_handler(path, handler):
    """The path of the first thing about a handler that is not judged, or None."""
    if not isinstance(handler, (StreamHandler, NullHandler)):
        return path
    behind = strange_filter(path, handler.filters)
    if behind is not None:
        return behind
    return None if is_plain(handler.formatter) else (*path, "formatter")


def strange_filter(path, filters):
    """The path of the first one of the filters that is a function, or None."""
    for place, one in enumerate(filters):
        if not isinstance(one, Filter):
            return (*path, "filters", place)
    return None


def is_plain(formatter):
    """Whether there is no formatter, or one that has plain fields alone and no defaults."""
    if formatter is None:
        return True
    if formatter.defaults:
        return False
    return all(is_plain_piece(piece) for piece in formatter.pieces)


def is_plain_piece(piece):
    """Whether a piece of a format is a text, or a field of the four as it stands."""
    if not isinstance(piece, Field):
        return True
    return piece.name in FIELD_MARKS and piece.way == "" and piece.align == "" and piece.width == 0


def refuse_strange(yards):
    """Raise an error for the first of the yards that is not judged, if there is one."""
    for yard in yards:
        path = offence(yard)
        if path is not None:
            raise NotJudged(path)


def outcome(yard, record):
    """What is written for a record: the ascending list of pairs of a stream and a text."""
    refuse_strange([yard])
    name, level, message = record
    sight = sight_of(yard)
    numbers = sight.active(sight.lane(sight.trace(name, False)), level)
    texts = filled(sight.forms_at(numbers, level), NAME_MARK, written_name(name))
    texts = filled(texts, MESSAGE_MARK, message)
    return [(stream, text_of_form(texts[stream])) for stream in sorted(texts)]
