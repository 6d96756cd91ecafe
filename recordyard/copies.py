"""Copies of whole yards."""

from recordyard.twins import Twins
from recordyard.yards import Yard


def copied(yard):
    """A yard that stands as this one does, and on which nothing hangs that hangs on this one."""
    other = Yard(yard.now())
    other.disable(yard.bar())
    other.levels.stand_as(yard.levels)
    other.stream_store.stand_as(yard.stream_store)
    other.file_store.stand_as(yard.file_store)
    twins = Twins(other)
    copy_handlers(yard, other, twins)
    other.roster.keep_failures(yard.failures())
    for name, logger in yard.tree.roll():
        copy_logger(logger, other.getLogger(name), twins)
    return other


def copy_handlers(yard, other, twins):
    """Make the twins of all handlers, in the order in which these were made, and let names lead to them."""
    for handler in yard.roster.handlers:
        if handler == yard.tree.last_resort:
            twins.handlers[handler] = other.tree.last_resort
        else:
            twins.make_handler(handler)
    for handler in yard.roster.handlers:
        twins.link(handler)
    for name in yard.getHandlerNames():
        other.roster.lead(name, twins.handlers[yard.getHandlerByName(name)])


def copy_logger(logger, twin, twins):
    """Let a logger, whose parent is the right one by its name, stand as another one."""
    twin.level = logger.level
    twin.propagate = logger.propagate
    twin.disabled = logger.disabled
    twin.handlers = [twins.handlers[handler] for handler in logger.handlers]
    twin.filters = [twins.filter_of(one) for one in logger.filters]
