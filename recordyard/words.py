"""The keys of settings, the words for classes of handlers, and what may stand behind each key."""

from recordyard.files import is_mode
from recordyard.formats import is_style
from recordyard.kinds import is_integer
from recordyard.whens import is_when

TOP_FLAGS = ("incremental", "disable_existing_loggers")
TOP_TABLES = ("formatters", "filters", "handlers", "loggers", "root")
FORMATTER_KEYS = ("format", "style", "validate", "defaults")
FILTER_KEYS = ("name",)
ROOT_KEYS = ("level", "filters", "handlers")
LOGGER_KEYS = ("level", "filters", "handlers", "propagate")
HANDLER_KEYS = ("class", "level", "formatter", "filters", "terminator")
# What each word has besides; where it is made of them, the names are those of its class's parameters.
CLASS_KEYS = {
    "stream": ("stream",),
    "null": (),
    "file": ("filename", "mode", "delay"),
    "rotating": ("filename", "mode", "maxBytes", "backupCount", "delay"),
    "timed": ("filename", "when", "interval", "backupCount", "delay"),
    "memory": ("capacity", "flushLevel", "target", "flushOnClose"),
    "queue": ("handlers", "respect_handler_level"),
}
NEEDED_KEYS = {"file": "filename", "rotating": "filename", "timed": "filename", "memory": "capacity"}

FLAGS = ("delay", "flushOnClose", "propagate", "respect_handler_level", "validate")
TEXTS = ("name", "stream", "terminator")
COUNTS = ("backupCount", "capacity", "maxBytes")


def fits_top(key, value):
    """Whether a key of the settings themselves is told, and its value of the told kind."""
    if key == "version":
        return is_integer(value) and value == 1
    if key in TOP_FLAGS:
        return isinstance(value, bool)
    return key in TOP_TABLES and isinstance(value, dict)


def fits(key, value):
    """Whether a value is of the kind that is told for its key, where this hangs on nothing else."""
    if key in FLAGS:
        return isinstance(value, bool)
    if key in TEXTS:
        return isinstance(value, str)
    if key in COUNTS:
        return is_integer(value) and value >= 0
    if key == "interval":
        return is_integer(value) and value >= 1
    if key == "flushLevel":
        return is_integer(value)
    if key == "filename":
        return isinstance(value, str) and value != ""
    if key == "format":
        return value is None or isinstance(value, str)
    if key == "defaults":
        return value is None or isinstance(value, dict)
    return fits_class(key, value)


def fits_class(key, value):
    """Whether a value is one that the class takes that has this key for a parameter."""
    if key == "style":
        return is_style(value)
    if key == "mode":
        return is_mode(value)
    return key == "when" and is_when(value)


def is_word(thing):
    """Whether thing is a word for a class of handlers."""
    return isinstance(thing, str) and thing in CLASS_KEYS


def leading_on(row):
    """The ids of the handlers to which a handler of settings hands records on."""
    if row["class"] == "queue":
        return list(row.get("handlers", ()))
    return [row["target"]] if "target" in row else []
