"""Queues of records, with handlers that fill them and listeners that empty them."""

from recordyard.handling import Handler
from recordyard.records import LogRecord


class Queue:
    """A row of records."""

    def __init__(self):
        self.rows = []

    def __len__(self):
        return len(self.rows)

    def put(self, record):
        """Put a record behind the others."""
        self.rows.append(record)

    def get(self):
        """The eldest record, which leaves the queue, or None."""
        return self.rows.pop(0) if self.rows else None


class QueueHandler(Handler):
    """Puts records into a queue, such that nothing is left to be formatted."""

    def __init__(self, yard, queue):
        super().__init__(yard)
        self.queue = queue
        self.listener = None

    def emit(self, record):
        """Put a prepared copy of a record into the queue; the record itself stays as it is."""
        text = self.formatted(record)
        name, levelno, levelname = record.name, record.levelno, record.levelname
        self.queue.put(LogRecord(name, levelno, levelname, text, (), record.created, record.extra))

    def setLevel(self, level):
        """As of all handlers."""
        super().setLevel(level)

    def setFormatter(self, formatter):
        """As of all handlers."""
        super().setFormatter(formatter)

    def setTerminator(self, text):
        """As of all handlers."""
        super().setTerminator(text)

    def setName(self, name):
        """As of all handlers."""
        super().setName(name)

    def addFilter(self, one):
        """As of all handlers."""
        super().addFilter(one)

    def removeFilter(self, one):
        """As of all handlers."""
        super().removeFilter(one)

    def filtered(self, record):
        """As of all handlers."""
        return super().filtered(record)

    def handle(self, record):
        """As of all handlers."""
        return super().handle(record)

    def formatted(self, record):
        """As of all handlers."""
        return super().formatted(record)

    def flush(self):
        """As of all handlers."""
        super().flush()

    def close(self):
        """As of all handlers."""
        super().close()


class QueueListener:
    """Lets handlers handle the records of a queue, when it is told to."""

    def __init__(self, queue, handlers, respect_handler_level=False):
        self.queue = queue
        self.handlers = list(handlers)
        self.respect_handler_level = respect_handler_level

    def run(self, many=None):
        """Take records out of the queue, all or at most so many, and let them be handled; how many it took."""
        took = 0
        while len(self.queue) > 0 and (many is None or took < many):
            self.pass_on(self.queue.get())
            took += 1
        return took

    def pass_on(self, record):
        """Let the handlers handle a record, in their order."""
        for handler in self.handlers:
            if not self.respect_handler_level or handler.level <= record.levelno:
                handler.handle(record)
