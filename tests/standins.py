"""What the tests take for yards and handlers, and objects of all kinds."""

from recordyard.levels import LevelTable
from recordyard.records import made_record
from recordyard.times import Clock
from recordyard.trees import LoggerTree


class Keeper:
    """A handler that keeps what it handles, in a list that it may share with others."""

    def __init__(self, level=0, kept=None, word=""):
        self.level = level
        self.kept = [] if kept is None else kept
        self.word = word
        self.records = []

    def handle(self, record):
        self.records.append(record)
        self.kept.append((self.word, record.message()))
        return True


class StandIn:
    """A yard, as far as records and loggers need one."""

    def __init__(self, now=0):
        self.clock = Clock(now)
        self.levels = LevelTable()
        self.last = Keeper()
        self.tree = LoggerTree(self, self.levels, self.clock, self.last)
        self.root = self.tree.root

    def getLogger(self, name=""):
        return self.tree.getLogger(name)

    def make_record(self, name, level, msg, args=(), extra=None):
        return made_record(self.levels, self.clock.now(), name, level, msg, args, extra)


def objects():
    """Objects of all kinds that the document knows, new ones each time."""
    return [
        0, 1, -1, 7, 10 ** 18, -10 ** 18, True, False, None, "", "a", "{}", "two\nlines", "it's",
        (), (1,), ("a", None), [], [1, [2, (3, [4])]], {}, {"k": [1, {"in": (True,)}]},
        {1: "one", (1, "a"): None, None: [], True: 0}, ([{}], {"": ()}), [[[]]], (((),),),
    ]
