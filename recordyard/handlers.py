"""Handlers that write to streams, and such as do nothing.

Each class of a handler has all its methods in its own body, also those in which it is as all others.
"""

from recordyard.handling import Handler


class StreamHandler(Handler):
    """Writes records to a stream of the yard."""

    def __init__(self, yard, stream="stderr"):
        super().__init__(yard)
        self.stream = stream

    def setStream(self, stream):
        """Set the stream; the earlier one, or None if it is the same."""
        if stream == self.stream:
            return None
        earlier = self.stream
        self.stream = stream
        return earlier

    def emit(self, record):
        """Write a record to the stream."""
        self.yard.stream_store.write(self.stream, self.line(record))

    def setLevel(self, level):
        """As of all handlers."""
        super().setLevel(level)

    def setFormatter(self, formatter):
        """As of all handlers."""
        super().setFormatter(formatter)

    def setTerminator(self, text):
        """As of all handlers."""
        super().setTerminator(text)

    def setName(self, name):
        """As of all handlers."""
        super().setName(name)

    def addFilter(self, one):
        """As of all handlers."""
        super().addFilter(one)

    def removeFilter(self, one):
        """As of all handlers."""
        super().removeFilter(one)

    def filtered(self, record):
        """As of all handlers."""
        return super().filtered(record)

    def handle(self, record):
        """As of all handlers."""
        return super().handle(record)

    def formatted(self, record):
        """As of all handlers."""
        return super().formatted(record)

    def flush(self):
        """As of all handlers."""
        super().flush()

    def close(self):
        """As of all handlers."""
        super().close()


class NullHandler(Handler):
    """Lets records by, and does nothing with them."""

    def __init__(self, yard):
        super().__init__(yard)

    def emit(self, record):
        """Do nothing, so that nothing is formatted."""

    def setLevel(self, level):
        """As of all handlers."""
        super().setLevel(level)

    def setFormatter(self, formatter):
        """As of all handlers."""
        super().setFormatter(formatter)

    def setTerminator(self, text):
        """As of all handlers."""
        super().setTerminator(text)

    def setName(self, name):
        """As of all handlers."""
        super().setName(name)

    def addFilter(self, one):
        """As of all handlers."""
        super().addFilter(one)

    def removeFilter(self, one):
        """As of all handlers."""
        super().removeFilter(one)

    def filtered(self, record):
        """As of all handlers."""
        return super().filtered(record)

    def handle(self, record):
        """As of all handlers."""
        return super().handle(record)

    def formatted(self, record):
        """As of all handlers."""
        return super().formatted(record)

    def flush(self):
        """As of all handlers."""
        super().flush()

    def close(self):
        """As of all handlers."""
        super().close()
