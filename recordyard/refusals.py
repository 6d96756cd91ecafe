"""Why settings are refused: each function returns the path of what is wrong first, or None."""

from recordyard.errors import BadFormat
from recordyard.formatters import Formatter
from recordyard.kinds import is_logger_name
from recordyard.trees import ROOT_NAMES
from recordyard.words import (
    CLASS_KEYS, FILTER_KEYS, FORMATTER_KEYS, HANDLER_KEYS, LOGGER_KEYS, NEEDED_KEYS, ROOT_KEYS,
    fits, fits_top, is_word, leading_on,
)


def wrong_at_top(settings):
    """Of the keys of the settings, without a look at what stands in their dicts."""
    for key in sorted(settings):
        if not fits_top(key, settings[key]):
            return (key,)
    return None if "version" in settings else ("version",)


def wrong_increment(yard, settings):
    """Of incremental settings, whose keys at the top are right."""
    handlers = settings.get("handlers", {})
    for key in sorted(handlers):
        path = ("handlers", key)
        if yard.getHandlerByName(key) is None or not isinstance(handlers[key], dict):
            return path
        wrong = wrong_setting(yard, path, handlers[key], False)
        if wrong is not None:
            return wrong
    loggers = settings.get("loggers", {})
    for name in sorted(loggers):
        path = ("loggers", name)
        if not is_logger_name(name) or not isinstance(loggers[name], dict):
            return path
        wrong = wrong_setting(yard, path, loggers[name], name not in ROOT_NAMES)
        if wrong is not None:
            return wrong
    return wrong_setting(yard, ("root",), settings.get("root", {}), False)


def wrong_setting(yard, path, row, may_propagate):
    """Of the row of a handler or a logger in incremental settings."""
    if "level" in row and not yard.levels.knows(row["level"]):
        return (*path, "level")
    if may_propagate and "propagate" in row and not fits("propagate", row["propagate"]):
        return (*path, "propagate")
    return None


def wrong_whole(yard, settings):
    """Of settings that are not incremental, whose keys at the top are right."""
    for section in ("formatters", "filters", "handlers", "loggers"):
        rows = settings.get(section, {})
        for key in sorted(rows):
            path = (section, key)
            known = section != "loggers" or is_logger_name(key)
            if not known or not isinstance(rows[key], dict):
                return path
            wrong = wrong_entry(yard, settings, path, rows[key])
            if wrong is not None:
                return wrong
    wrong = wrong_row(yard, settings, ("root",), settings.get("root", {}), ROOT_KEYS)
    if wrong is not None:
        return wrong
    return wrong_circle(settings.get("handlers", {}))


def wrong_entry(yard, settings, path, row):
    """Of the row of a formatter, a filter, a handler or a logger."""
    section, key = path
    if section == "formatters":
        return wrong_formatter(yard, settings, path, row)
    if section == "filters":
        return wrong_row(yard, settings, path, row, FILTER_KEYS)
    if section == "handlers":
        return wrong_handler(yard, settings, path, row)
    return wrong_row(yard, settings, path, row, ROOT_KEYS if key in ROOT_NAMES else LOGGER_KEYS)


def wrong_formatter(yard, settings, path, row):
    """Of the row of a formatter."""
    wrong = wrong_row(yard, settings, path, row, FORMATTER_KEYS)
    if wrong is not None:
        return wrong
    try:
        made_formatter(row)
    except BadFormat:
        return path
    return None


def made_formatter(row):
    """The formatter that a row of settings tells."""
    told = {key: row[key] for key in ("style", "validate", "defaults") if key in row}
    told["fmt"] = row.get("format")
    return Formatter(**told)


def wrong_handler(yard, settings, path, row):
    """Of the row of a handler."""
    word = row.get("class")
    if not is_word(word):
        return (*path, "class")
    wrong = wrong_row(yard, settings, path, row, HANDLER_KEYS + CLASS_KEYS[word])
    if wrong is not None:
        return wrong
    needed = NEEDED_KEYS.get(word)
    if needed is not None and needed not in row:
        return (*path, needed)
    return None


def wrong_row(yard, settings, path, row, keys):
    """Of a row that may have these keys."""
    for key in sorted(row):
        if key not in keys:
            return (*path, key)
        behind = wrong_value(yard, settings, key, row[key])
        if behind is not None:
            return (*path, key, *behind)
    return None


def wrong_value(yard, settings, key, value):
    """Of a value in a row; the path begins behind its key."""
    if key == "level":
        right = yard.levels.knows(value)
    elif key == "formatter":
        right = is_key(settings.get("formatters", {}), value)
    elif key == "target":
        right = is_key(settings.get("handlers", {}), value)
    elif key == "filters" or key == "handlers":
        return wrong_keys(settings.get(key, {}), value)
    else:
        # The word of a class was looked at ahead of the keys.
        right = key == "class" or fits(key, value)
    return None if right else ()


def is_key(rows, value):
    """Whether a value is the id of one of the rows."""
    return isinstance(value, str) and value in rows


def wrong_keys(rows, value):
    """Of a value that is to be a list of ids of these rows; the path begins behind its key."""
    if not isinstance(value, (list, tuple)):
        return ()
    for place, one in enumerate(value):
        if not is_key(rows, one):
            return (place,)
    return None


def wrong_circle(handlers):
    """Of handlers whose records may come back to themselves; all else about them is right."""
    for key in sorted(handlers):
        row = handlers[key]
        for place, one in enumerate(leading_on(row)):
            if leads_to(handlers, one, key):
                path = ("handlers", key)
                return (*path, "handlers", place) if row["class"] == "queue" else (*path, "target")
    return None


def leads_to(handlers, start, goal):
    """Whether records that one handler gets come to another one, or it is this one itself."""
    seen = set()
    waiting = [start]
    while waiting:
        key = waiting.pop()
        if key == goal:
            return True
        if key not in seen:
            seen.add(key)
            waiting.extend(leading_on(handlers[key]))
    return False
