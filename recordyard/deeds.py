"""Deeds, each of which takes one thing out of a yard or sets it back."""

from recordyard.copies import copied
from recordyard.differences import difference
from recordyard.errors import BadDeed
from recordyard.judging import refuse_strange
from recordyard.kinds import is_integer
from recordyard.levels import NOTSET


def deeds(yard):
    """All deeds that a yard has, ascending."""
    found = [("bar",)] if yard.bar() != NOTSET else []
    for name, logger in yard.tree.roll():
        found.extend(deeds_of_logger(name, logger))
        for place, handler in enumerate(logger.handlers):
            found.extend(deeds_of_handler(name, place, handler))
    return sorted(found)


def deeds_of_logger(name, logger):
    """The deeds that a logger itself has."""
    found = [("filter", name, place) for place in range(len(logger.filters))]
    if logger.disabled:
        found.append(("disabled", name))
    if logger.level != NOTSET:
        found.append(("level", name))
    if not logger.propagate:
        found.append(("propagate", name))
    return found


def deeds_of_handler(name, place, handler):
    """The deeds that a handler has at its place of a logger."""
    found = [("handler", name, place)]
    if handler.level != NOTSET:
        found.append(("level", name, place))
    for number in range(len(handler.filters)):
        found.append(("filter", name, place, number))
    return found


def done(yard, deed):
    """A copy of the yard in which the deed is done."""
    if not is_deed(yard, deed):
        raise BadDeed(deed)
    other = copied(yard)
    do(other, tuple(deed))
    return other


def is_deed(yard, thing):
    """Whether a thing, a tuple or a list, is a deed of a yard."""
    if not isinstance(thing, (list, tuple)):
        return False
    # True and False would be equal to places.
    if not all(isinstance(part, str) or is_integer(part) for part in thing):
        return False
    return tuple(thing) in deeds(yard)


def do(yard, deed):
    """Do a deed that the yard has."""
    word = deed[0]
    if word == "bar":
        yard.disable(NOTSET)
    elif word == "disabled":
        yard.getLogger(deed[1]).setDisabled(False)
    elif word == "propagate":
        yard.getLogger(deed[1]).setPropagate(True)
    elif word == "handler":
        logger = yard.getLogger(deed[1])
        logger.removeHandler(logger.handlers[deed[2]])
    elif word == "level":
        # With a place it is one of the handlers of the logger.
        at = yard.getLogger(deed[1])
        owner = at if len(deed) == 2 else at.handlers[deed[2]]
        owner.setLevel(NOTSET)
    else:
        at = yard.getLogger(deed[1])
        owner = at if len(deed) == 3 else at.handlers[deed[2]]
        owner.removeFilter(owner.filters[deed[-1]])


def idle(yard):
    """All deeds of a yard, each with the least record for which it changes anything, or None."""
    refuse_strange([yard])
    return [(deed, difference(yard, done(yard, deed))) for deed in deeds(yard)]
