"""Cuts: the names and levels between which a judged yard treats all records alike."""

from recordyard.levels import WARNING
from recordyard.orders import is_record_name, line_up, name_order
from recordyard.sights import names_of


def mentioned(yards):
    """The names of records that are mentioned by one of the yards, in their order."""
    told = {"": True}
    for yard in yards:
        for name, logger in yard.tree.roll():
            told[name] = True
            for one in filter_names(logger):
                told[one] = True
    found = {}
    for name in told:
        # A beginning may be a name of records, also where the whole name is none.
        for beginning in line_up(name):
            if is_record_name(beginning):
                found[beginning] = True
    return sorted(found, key=name_order)


def filter_names(logger):
    """The names of the Filters of a logger and of its handlers."""
    names = names_of(logger.filters)
    for handler in logger.handlers:
        names.extend(names_of(handler.filters))
    return names


def bounding(yards):
    """The levels at which something may begin to be otherwise at one of the yards, ascending."""
    found = {1: True, WARNING: True}
    for yard in yards:
        found[yard.bar() + 1] = True
        for level in standing_levels(yard):
            found[level] = True
        for level in yard.levels.names:
            found[level] = True
            found[level + 1] = True
    return [level for level in sorted(found) if level >= 1]


def standing_levels(yard):
    """The levels of the loggers of a yard and of their handlers."""
    levels = []
    for _, logger in yard.tree.roll():
        levels.append(logger.level)
        for handler in logger.handlers:
            levels.append(handler.level)
    return levels


def spans_of(levels):
    """Each of the levels with the next one, and the last one with None."""
    return list(zip(levels, levels[1:] + [None]))


def single_level(low, high):
    """The only level of a span, or 0 if it has several; these have no names."""
    return low if high == low + 1 else 0
