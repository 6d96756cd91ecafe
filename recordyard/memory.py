"""Handlers that keep records back for another handler."""

from recordyard.handling import Handler


class MemoryHandler(Handler):
    """Keeps records until there are enough of them, or one is grave enough; then its target handles them."""

    def __init__(self, yard, capacity, flushLevel=40, target=None, flushOnClose=True):
        super().__init__(yard)
        self.capacity = capacity
        self.flushLevel = flushLevel
        self.target = target
        self.flushOnClose = flushOnClose
        self.kept = []

    def buffer(self):
        """The records that are kept, in the order in which they came."""
        return list(self.kept)

    def shouldFlush(self, record):
        """Whether enough records are kept, or this one is grave enough."""
        return len(self.kept) >= self.capacity or record.levelno >= self.flushLevel

    def setTarget(self, target):
        """Set the handler that handles what is kept, or none by None."""
        self.target = target

    def emit(self, record):
        """Keep a record, and flush if it should be."""
        self.kept.append(record)
        if self.shouldFlush(record):
            self.flush()

    def flush(self):
        """Let the target, if there is one, handle what is kept, which is kept no longer then."""
        if self.target is None:
            return
        kept = self.kept
        self.kept = []
        for record in kept:
            self.target.handle(record)

    def close(self):
        """Close the handler, which has no target any more; what is still kept stays."""
        if self.flushOnClose:
            self.flush()
        self.target = None
        super().close()

    def setLevel(self, level):
        """As of all handlers."""
        super().setLevel(level)

    def setFormatter(self, formatter):
        """As of all handlers."""
        super().setFormatter(formatter)

    def setTerminator(self, text):
        """As of all handlers."""
        super().setTerminator(text)

    def setName(self, name):
        """As of all handlers."""
        super().setName(name)

    def addFilter(self, one):
        """As of all handlers."""
        super().addFilter(one)

    def removeFilter(self, one):
        """As of all handlers."""
        super().removeFilter(one)

    def filtered(self, record):
        """As of all handlers."""
        return super().filtered(record)

    def handle(self, record):
        """As of all handlers."""
        return super().handle(record)

    def formatted(self, record):
        """As of all handlers."""
        return super().formatted(record)
