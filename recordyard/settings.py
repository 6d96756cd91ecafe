"""Settings: dicts that tell what a yard's handlers and loggers shall be."""

from recordyard.errors import BadSettings
from recordyard.filters import Filter
from recordyard.makers import made_handlers
from recordyard.refusals import made_formatter, wrong_at_top, wrong_increment, wrong_whole
from recordyard.trees import ROOT_NAMES


def wrong(yard, settings):
    """The path of what is wrong first with the settings, or None if they can be laid over the yard."""
    if not isinstance(settings, dict):
        return ()
    path = wrong_at_top(settings)
    if path is not None:
        return path
    if settings.get("incremental", False):
        return wrong_increment(yard, settings)
    return wrong_whole(yard, settings)


def configure(yard, settings):
    """Lay the settings over the yard, or refuse them as a whole."""
    path = wrong(yard, settings)
    if path is not None:
        raise BadSettings(path)
    if settings.get("incremental", False):
        lay_increment(yard, settings)
    else:
        lay_whole(yard, settings)


def lay_increment(yard, settings):
    """Set levels of handlers, levels and propagation of loggers, and nothing else."""
    handlers = settings.get("handlers", {})
    for key in sorted(handlers):
        if "level" in handlers[key]:
            yard.getHandlerByName(key).setLevel(handlers[key]["level"])
    loggers = settings.get("loggers", {})
    for name in sorted(loggers):
        set_ways(yard.getLogger(name), loggers[name])
    set_ways(yard.root, settings.get("root", {}))


def set_ways(logger, row):
    """Set the level of a logger and, but for the root, whether it propagates, where this is told."""
    if "level" in row:
        logger.setLevel(row["level"])
    if "propagate" in row and logger.parent is not None:
        logger.setPropagate(row["propagate"])


def lay_whole(yard, settings):
    """Close what there is, make what is told, and set all loggers."""
    earlier = yard.loggers()
    yard.roster.free_all()
    yard.shutdown()
    rows = settings.get("formatters", {})
    formatters = {key: made_formatter(rows[key]) for key in rows}
    rows = settings.get("filters", {})
    filters = {key: Filter(rows[key].get("name", "")) for key in rows}
    handlers = made_handlers(yard, settings.get("handlers", {}), formatters, filters)
    loggers = settings.get("loggers", {})
    for name in sorted(loggers):
        set_logger(yard.getLogger(name), loggers[name], handlers, filters)
    for name in earlier:
        if name not in loggers:
            leave_logger(yard.getLogger(name), loggers, settings.get("disable_existing_loggers", True))
    if "root" in settings:
        set_logger(yard.root, settings["root"], handlers, filters)


def set_logger(logger, row, handlers, filters):
    """Set a logger that is named."""
    set_ways(logger, row)
    take_handlers_off(logger)
    for key in row.get("handlers", ()):
        logger.addHandler(handlers[key])
    for key in row.get("filters", ()):
        logger.addFilter(filters[key])
    if logger.parent is not None:
        logger.setDisabled(False)


def take_handlers_off(logger):
    """Take all handlers off a logger."""
    for handler in list(logger.handlers):
        logger.removeHandler(handler)


def leave_logger(logger, loggers, disabled):
    """Do with a logger what becomes of those that are not named themselves."""
    if is_below_one(logger.name, loggers):
        logger.setLevel(0)
        take_handlers_off(logger)
        logger.setPropagate(True)
    else:
        logger.setDisabled(disabled)


def is_below_one(name, loggers):
    """Whether a name begins with a point behind a name of these loggers, but for the root's."""
    return any(name.startswith(one + ".") for one in loggers if one not in ROOT_NAMES)
