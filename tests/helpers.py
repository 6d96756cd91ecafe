"""What several files of tests use: handlers that show what they get, objects of all kinds."""

from recordyard.files import FileHandler
from recordyard.handlers import NullHandler, StreamHandler
from recordyard.memory import MemoryHandler
from recordyard.queues import Queue, QueueHandler
from recordyard.rotating import RotatingFileHandler
from recordyard.timed import TimedRotatingFileHandler


class Asked:
    """A function that keeps what it is asked, and tells what it is told to tell."""

    def __init__(self, told=True):
        self.told = told
        self.records = []

    def __call__(self, record):
        self.records.append(record)
        return self.told


def keeper(yard, level=0, kept=None, word=""):
    """A handler whose records can be seen; word goes to the list kept, which it may share with others."""
    handler = NullHandler(yard)
    handler.setLevel(level)
    handler.records = []

    def keep(record):
        handler.records.append(record)
        if kept is not None:
            kept.append(word)
        return True

    handler.addFilter(keep)
    return handler


def objects():
    """Objects of all kinds that the document knows, new ones each time."""
    return [
        0, 1, -1, 7, 10 ** 18, -10 ** 18, True, False, None, "", "a", "{}", "two\nlines", "it's",
        (), (1,), ("a", None), [], [1, [2, (3, [4])]], {}, {"k": [1, {"in": (True,)}]},
        {1: "one", (1, "a"): None, None: [], True: 0}, ([{}], {"": ()}), [[[]]], (((),),),
    ]


def one_of_each(yard):
    """A new handler of each class; the files are called by the numbers of the handlers."""
    return [
        StreamHandler(yard), NullHandler(yard), FileHandler(yard, "f2"), FileHandler(yard, "f3", "w", True),
        RotatingFileHandler(yard, "f4", "w"), RotatingFileHandler(yard, "f5", "a", 50, 2, True), TimedRotatingFileHandler(yard, "f6"),
        MemoryHandler(yard, 0), MemoryHandler(yard, 2, 20, StreamHandler(yard, "s8"), False), QueueHandler(yard, Queue()),
    ]


def not_integers():
    """The objects that are no integers."""
    return [thing for thing in objects() if type(thing) is not int]
