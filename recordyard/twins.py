"""Things of a yard and their twins in its copy."""

from recordyard.files import FileHandler
from recordyard.filters import Filter
from recordyard.formatters import Formatter
from recordyard.handlers import NullHandler, StreamHandler
from recordyard.kinds import own_copy
from recordyard.memory import MemoryHandler
from recordyard.queues import Queue, QueueHandler, QueueListener
from recordyard.rotating import RotatingFileHandler
from recordyard.timed import TimedRotatingFileHandler


class Twins:
    """The twins of what hangs on loggers: each thing has one, so that what was shared is shared again."""

    def __init__(self, yard):
        self.yard = yard
        self.handlers = {}
        self.filters = {}
        self.formatters = {}
        self.queues = {}

    def filter_of(self, one):
        """The twin of a filter; a function is its own one."""
        if not isinstance(one, Filter):
            return one
        if one not in self.filters:
            self.filters[one] = Filter(one.name)
        return self.filters[one]

    def formatter_of(self, one):
        """The twin of a formatter, or None for none."""
        if one is None:
            return None
        if one not in self.formatters:
            twin = Formatter()
            twin.pieces = list(one.pieces)
            twin.defaults = own_copy(one.defaults)
            self.formatters[one] = twin
        return self.formatters[one]

    def queue_of(self, one):
        """The twin of a queue, with the same records."""
        if one not in self.queues:
            twin = Queue()
            twin.rows = list(one.rows)
            self.queues[one] = twin
        return self.queues[one]

    def listener_of(self, one):
        """The twin of a listener, of which there is one for each, or None for none."""
        if one is None:
            return None
        handlers = [self.handlers[handler] for handler in one.handlers]
        return QueueListener(self.queue_of(one.queue), handlers, one.respect_handler_level)

    def make_handler(self, handler):
        """Make the twin of a handler, without the handlers to which it leads."""
        twin = self.of_class(handler)
        twin.level = handler.level
        twin.formatter = self.formatter_of(handler.formatter)
        twin.filters = [self.filter_of(one) for one in handler.filters]
        # Not by setName, as names may lead elsewhere by now.
        twin.name = handler.name
        twin.terminator = handler.terminator
        twin.closed = handler.closed
        self.handlers[handler] = twin

    def of_class(self, handler):
        """A handler of the same class, made as this one was."""
        if isinstance(handler, StreamHandler):
            return StreamHandler(self.yard, handler.stream)
        if isinstance(handler, NullHandler):
            return NullHandler(self.yard)
        if isinstance(handler, FileHandler):
            return self.of_file(handler)
        if isinstance(handler, QueueHandler):
            return QueueHandler(self.yard, self.queue_of(handler.queue))
        twin = MemoryHandler(self.yard, handler.capacity, handler.flushLevel, None, handler.flushOnClose)
        twin.kept = handler.buffer()
        return twin

    def of_file(self, handler):
        """A handler of a file of the same class, whose file stands opened or not as that of this one."""
        name = handler.filename
        # With delay, so that no file is made or emptied.
        if isinstance(handler, RotatingFileHandler):
            twin = RotatingFileHandler(self.yard, name, handler.mode, handler.maxBytes, handler.backupCount, True)
            twin.namer = handler.namer
        elif isinstance(handler, TimedRotatingFileHandler):
            twin = TimedRotatingFileHandler(self.yard, name, handler.when, handler.interval, handler.backupCount, True)
            twin.rolloverAt = handler.rolloverAt
        else:
            twin = FileHandler(self.yard, name, handler.mode, True)
        twin.delay = handler.delay
        twin.opened = handler.opened
        return twin

    def link(self, handler):
        """Let the twin of a handler lead where this one leads, as far as it does."""
        twin = self.handlers[handler]
        if isinstance(handler, MemoryHandler) and handler.target is not None:
            twin.target = self.handlers[handler.target]
        if isinstance(handler, QueueHandler):
            twin.listener = self.listener_of(handler.listener)
