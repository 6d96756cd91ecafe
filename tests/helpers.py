"""What several files of tests use: handlers that show what they get, objects of all kinds."""

from recordyard.files import FileHandler
from recordyard.handlers import NullHandler, StreamHandler
from recordyard.memory import MemoryHandler
from recordyard.queues import Queue, QueueHandler
from recordyard.rotating import RotatingFileHandler
from recordyard.timed import TimedRotatingFileHandler


class Asked:
    """A function that keeps what it is asked, and tells what it is told to tell."""

    def __init__(self, told=True):
        self.told = told
        self.records = []

    def __call__(self, record):
        self.records.append(record)
        return self.told


def keeper(yard, level=0, kept=None, word=""):
    """A handler whose records can be seen; word goes to the list kept, which it may share with others."""
    handler = NullHandler(yard)
    handler.setLevel(level)
    handler.records = []

    def keep(record):
        handler.records.append(record)
        if kept is not None:
            kept.append(word)
        return True

    handler.addFilter(keep)
    return handler


def objects():
    """Objects of all kinds that the document knows, new ones each time."""
    return [
        0, 1, -1, 7, 10 ** 18, -10 ** 18, True, False, None, "", "a", "{}", "two\nlines", "it's",
        (), (1,), ("a", None), [], [1, [2, (3, [4])]], {}, {"k": [1, {"in": (True,)}]},
        {1: "one", (1, "a"): None, None: [], True: 0}, ([{}], {"": ()}), [[[]]], (((),),),
    ]


def one_of_each(yard):
    """A new handler of each class; the files are called by the numbers of the handlers."""
    return [
        StreamHandler(yard), NullHandler(yard), FileHandler(yard, "f2"), FileHandler(yard, "f3", "w", True),
        RotatingFileHandler(yard, "f4", "w"), RotatingFileHandler(yard, "f5", "a", 50, 2, True), TimedRotatingFileHandler(yard, "f6"),
        MemoryHandler(yard, 0), MemoryHandler(yard, 2, 20, StreamHandler(yard, "s8"), False), QueueHandler(yard, Queue()),
    ]


def not_integers():
    """The objects that are no integers."""
    return [thing for thing in objects() if type(thing) is not int]


def all_loggers(yard):
    """All loggers of a yard, the root first, the others ascending."""
    return [yard.root] + [yard.getLogger(name) for name in yard.loggers()]


def standing(yard):
    """What a yard tells of itself: equal for two moments just if nothing was changed between."""
    loggers = [
        (one.name, one.level, one.propagate, one.disabled, list(one.handlers), list(one.filters), one.parent) for one in all_loggers(yard)
    ]
    handlers = []
    for one in {handler: None for logger in all_loggers(yard) for handler in logger.handlers} | {
        yard.getHandlerByName(name): None for name in yard.getHandlerNames()
    }:
        handlers.append((one, one.level, one.formatter, list(one.filters), one.name, one.terminator))
        for name in ("stream", "filename", "rolloverAt", "queue", "listener"):
            handlers.append(getattr(one, name, None))
        if isinstance(one, MemoryHandler):
            handlers.append(one.buffer())
        if isinstance(one, QueueHandler):
            handlers.append(len(one.queue))
    names = {name: yard.getHandlerByName(name) for name in yard.getHandlerNames()}
    streams = {name: yard.text(name) for name in yard.streams()}
    numbers = [yard.level_name(level) for level in range(-5, 105)]
    return (yard.now(), streams, yard.files(), yard.level_names(), numbers, yard.bar(), loggers, handlers, names, yard.failures())
