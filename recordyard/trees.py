"""The tree of a yard's loggers, with what they need of the yard."""

from recordyard.errors import BadName
from recordyard.kinds import is_logger_name
from recordyard.levels import NOTSET, WARNING
from recordyard.loggers import Logger

ROOT_NAMES = ("", "root")


class LoggerTree:
    """The loggers of a yard, and its bar.

    levels is the yard's LevelTable, clock its Clock; last_resort is the handler that handles
    records from 30 on for which there is none.
    """

    def __init__(self, yard, levels, clock, last_resort):
        self.yard = yard
        self.levels = levels
        self.clock = clock
        self.last_resort = last_resort
        self.barred = NOTSET
        self.named = {}
        self.root = Logger(self, "root", WARNING, None)

    def getLogger(self, name=""):
        """The logger of this name, which is made if there is none."""
        if not is_logger_name(name):
            raise BadName(name)
        if name in ROOT_NAMES:
            return self.root
        if name not in self.named:
            self.grow(name)
        return self.named[name]

    def grow(self, name):
        """Make a logger, between its parent and those of the parent's loggers that are below it."""
        logger = Logger(self, name, NOTSET, self.nearest(name))
        for other in self.made():
            if other.parent == logger.parent and other.name.startswith(name + "."):
                other.parent = logger
        self.named[name] = logger

    def nearest(self, name):
        """The logger with the longest name that name is below, or the root."""
        above = name.rpartition(".")[0]
        while above != "" and above not in self.named:
            above = above.rpartition(".")[0]
        return self.named[above] if above != "" else self.root

    def made(self):
        """The loggers that there are, ascending by names, without the root."""
        return [self.named[name] for name in self.loggers()]

    def loggers(self):
        """The names of the loggers that there are, ascending, without the root's."""
        return sorted(self.named)

    def roll(self):
        """All loggers, each behind its name: first the root, whose name is empty here, then ascending."""
        return [("", self.root)] + [(logger.name, logger) for logger in self.made()]

    def disable(self, level=50):
        """Set the bar: no record is made up to this level."""
        self.barred = self.levels.number(level)

    def bar(self):
        """The number of the bar."""
        return self.barred
