"""How handlers are made of settings that were found to be right."""

from recordyard.files import FileHandler
from recordyard.handlers import NullHandler, StreamHandler
from recordyard.memory import MemoryHandler
from recordyard.queues import Queue, QueueHandler, QueueListener
from recordyard.rotating import RotatingFileHandler
from recordyard.timed import TimedRotatingFileHandler
from recordyard.words import CLASS_KEYS, leading_on


def made_handlers(yard, rows, formatters, filters):
    """The handlers by their ids, those first that hand their records on to none that is not there yet."""
    made = {}
    left = sorted(rows)
    while left:
        waiting = []
        for key in left:
            if all(other in made for other in leading_on(rows[key])):
                made[key] = made_handler(yard, rows[key], made)
                dress(made[key], key, rows[key], formatters, filters)
            else:
                waiting.append(key)
        left = waiting
    return made


def made_handler(yard, row, made):
    """A handler of the class that a row tells."""
    word = row["class"]
    if word == "queue":
        return made_queue_handler(yard, row, made)
    told = {key: row[key] for key in CLASS_KEYS[word] if key in row}
    if word == "stream":
        return StreamHandler(yard, **told)
    if word == "null":
        return NullHandler(yard)
    if word == "file":
        return FileHandler(yard, **told)
    if word == "rotating":
        return RotatingFileHandler(yard, **told)
    if word == "timed":
        return TimedRotatingFileHandler(yard, **told)
    if "target" in told:
        told["target"] = made[told["target"]]
    return MemoryHandler(yard, **told)


def made_queue_handler(yard, row, made):
    """A handler with a queue of its own, and a listener of this queue."""
    handler = QueueHandler(yard, Queue())
    listening = []
    for key in leading_on(row):
        if made[key] not in listening:
            listening.append(made[key])
    handler.listener = QueueListener(handler.queue, listening, row.get("respect_handler_level", False))
    return handler


def dress(handler, key, row, formatters, filters):
    """Give a handler what handlers of all classes may have."""
    if key != "":
        handler.setName(key)
    if "level" in row:
        handler.setLevel(row["level"])
    if "formatter" in row:
        handler.setFormatter(formatters[row["formatter"]])
    for one in row.get("filters", ()):
        handler.addFilter(filters[one])
    if "terminator" in row:
        handler.setTerminator(row["terminator"])
