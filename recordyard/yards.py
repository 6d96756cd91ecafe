"""Yards: the class of the objects on which all state hangs."""

from recordyard.handlers import StreamHandler
from recordyard.levels import LevelTable
from recordyard.records import made_record
from recordyard.rosters import Roster
from recordyard.stores import Store
from recordyard.times import Clock
from recordyard.trees import LoggerTree


class Yard:
    """Loggers, handlers, streams, files and a clock that know of no other yard's."""

    def __init__(self, now=0):
        self.clock = Clock(now)
        self.levels = LevelTable()
        self.stream_store = Store(self.clock)
        self.file_store = Store(self.clock)
        self.roster = Roster()
        self.tree = LoggerTree(self, self.levels, self.clock, StreamHandler(self))
        self.root = self.tree.root

    def now(self):
        """What the clock shows."""
        return self.clock.now()

    def advance(self, milliseconds):
        """Move the clock on."""
        self.clock.advance(milliseconds)

    def text(self, stream):
        """All that was written to a stream."""
        return self.stream_store.text(stream)

    def streams(self):
        """The names of the streams to which something was written, ascending."""
        return [name for name in self.stream_store.all_names() if self.stream_store.length(name) > 0]

    def files(self):
        """The dict from the names of the files that there are to their contents."""
        return self.file_store.contents()

    def put_file(self, name, text):
        """Make a file, in the place of an earlier one."""
        self.file_store.put(name, text)

    def remove_file(self, name):
        """Take a file away, if it is there."""
        self.file_store.take_away(name)

    def add_level_name(self, level, name):
        """Let a number have this name, and the name lead to this number."""
        self.levels.add_level_name(level, name)

    def level_name(self, level):
        """The name of a number."""
        return self.levels.level_name(level)

    def level_names(self):
        """The dict from names of levels to their numbers."""
        return self.levels.level_names()

    def make_record(self, name, level, msg, args=(), extra=None):
        """A record of this moment."""
        return made_record(self.levels, self.clock.now(), name, level, msg, args, extra)

    def getLogger(self, name=""):
        """The logger of this name, which is made if there is none."""
        return self.tree.getLogger(name)

    def loggers(self):
        """The names of the loggers that there are, ascending, without the root's."""
        return self.tree.loggers()

    def disable(self, level=50):
        """Set the bar: no record is made up to this level."""
        self.tree.disable(level)

    def bar(self):
        """The number of the bar."""
        return self.tree.bar()

    def getHandlerByName(self, name):
        """The handler to which a name leads, or None."""
        return self.roster.led_to(name)

    def getHandlerNames(self):
        """The names that lead to handlers, ascending."""
        return self.roster.leading_names()

    def failures(self):
        """What handlers could not format: pairs of the record's name and a word."""
        return self.roster.failures()

    def shutdown(self):
        """Close the handlers that have not been closed, the youngest one first."""
        self.roster.close_all()
