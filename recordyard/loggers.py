"""Loggers: the class of the objects to which programs tell records."""

from recordyard.errors import BadLevel, BadName
from recordyard.filters import through_all
from recordyard.kinds import is_dotted, is_integer
from recordyard.levels import CRITICAL, DEBUG, ERROR, INFO, NOTSET, WARNING
from recordyard.records import made_record


class Logger:
    """One logger of a tree (see recordyard/trees.py), which gives it what it needs of its yard."""

    def __init__(self, tree, name, level, parent):
        self.tree = tree
        self.yard = tree.yard
        self.name = name
        self.level = level
        self.propagate = True
        self.disabled = False
        self.handlers = []
        self.filters = []
        self.parent = parent

    def setLevel(self, level):
        """Set the level, a number or a name of one."""
        self.level = self.tree.levels.number(level)

    def setPropagate(self, flag):
        """Set whether records go on to the parent's handlers."""
        self.propagate = flag

    def setDisabled(self, flag):
        """Set whether the logger lets no record by at all."""
        self.disabled = flag

    def getChild(self, suffix):
        """The logger whose name is this one's, a point and the suffix; of the root just the suffix."""
        if self.parent is None:
            return self.tree.getLogger(suffix)
        if not is_dotted(suffix):
            raise BadName(suffix)
        return self.tree.getLogger(self.name + "." + suffix)

    def getChildren(self):
        """The loggers right below this one, whose names have one part more, ascending."""
        # The root has no part in the names of others, not even in those that begin with "root.".
        points = 0 if self.parent is None else self.name.count(".") + 1
        below = [logger for logger in self.tree.made() if logger.parent == self]
        return [logger for logger in below if logger.name.count(".") == points]

    def getEffectiveLevel(self):
        """The level that holds here: the own one, or the nearest one above that is set."""
        logger = self
        while logger is not None:
            if logger.level != NOTSET:
                return logger.level
            logger = logger.parent
        return NOTSET

    def isEnabledFor(self, level):
        """Whether records of this level are made here."""
        if self.disabled or level <= self.tree.bar():
            return False
        return level >= self.getEffectiveLevel()

    def addHandler(self, handler):
        """Put a handler behind the others."""
        if handler not in self.handlers:
            self.handlers.append(handler)

    def removeHandler(self, handler):
        """Take a handler off."""
        if handler in self.handlers:
            self.handlers.remove(handler)

    def hasHandlers(self):
        """Whether a record that is told here finds a handler, whatever its level."""
        return len(self.handlers_reached()) > 0

    def handlers_reached(self):
        """The handlers of the loggers that are reached from here, in their order."""
        handlers = list(self.handlers)
        logger = self
        while logger.propagate and logger.parent is not None:
            logger = logger.parent
            handlers.extend(logger.handlers)
        return handlers

    def addFilter(self, one):
        """Put a filter behind the others."""
        if one not in self.filters:
            self.filters.append(one)

    def removeFilter(self, one):
        """Take a filter out."""
        if one in self.filters:
            self.filters.remove(one)

    def filtered(self, record):
        """The record as it comes through the filters, or None."""
        return through_all(self.filters, record)

    def log(self, level, msg, args=(), extra=None):
        """Make a record of this level and handle it, if the logger is enabled for it."""
        if not is_integer(level):
            raise BadLevel(level)
        if self.isEnabledFor(level):
            created = self.tree.clock.now()
            self.handle(made_record(self.tree.levels, created, self.name, level, msg, args, extra))

    def debug(self, msg, args=(), extra=None):
        """Log with the level 10."""
        self.log(DEBUG, msg, args, extra)

    def info(self, msg, args=(), extra=None):
        """Log with the level 20."""
        self.log(INFO, msg, args, extra)

    def warning(self, msg, args=(), extra=None):
        """Log with the level 30."""
        self.log(WARNING, msg, args, extra)

    def error(self, msg, args=(), extra=None):
        """Log with the level 40."""
        self.log(ERROR, msg, args, extra)

    def critical(self, msg, args=(), extra=None):
        """Log with the level 50."""
        self.log(CRITICAL, msg, args, extra)

    def handle(self, record):
        """Give what comes through the filters to the handlers that are reached."""
        if self.disabled:
            return
        left = self.filtered(record)
        if left is None:
            return
        handlers = self.handlers_reached()
        for handler in handlers:
            if handler.level <= left.levelno:
                handler.handle(left)
        if not handlers and left.levelno >= WARNING:
            self.tree.last_resort.handle(left)
