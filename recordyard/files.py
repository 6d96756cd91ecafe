"""Handlers that write to files."""

from recordyard.errors import BadMode
from recordyard.handling import Handler


def is_mode(thing):
    """Whether thing is a mode in which a file is opened."""
    return thing == "a" or thing == "w"


class FileHandler(Handler):
    """Writes records to a file of the yard."""

    def __init__(self, yard, filename, mode="a", delay=False):
        if not is_mode(mode):
            raise BadMode(mode)
        super().__init__(yard)
        self.filename = filename
        self.mode = mode
        self.delay = delay
        self.opened = False
        if not delay:
            self.open_file()

    def open_file(self):
        """Open the file, which is made if there is none; by the mode w it is made anew."""
        if self.mode == "w" or not self.yard.file_store.has(self.filename):
            self.yard.file_store.put(self.filename, "")
        self.opened = True

    def emit(self, record):
        """Write a record to the file."""
        if not self.opened:
            # By the mode w the file would lose what was written to it ahead of closing.
            if self.closed and self.mode == "w":
                return
            self.open_file()
        self.yard.file_store.write(self.filename, self.line(record))

    def close(self):
        """Close the handler and the file."""
        super().close()
        self.opened = False

    def setLevel(self, level):
        """As of all handlers."""
        super().setLevel(level)

    def setFormatter(self, formatter):
        """As of all handlers."""
        super().setFormatter(formatter)

    def setTerminator(self, text):
        """As of all handlers."""
        super().setTerminator(text)

    def setName(self, name):
        """As of all handlers."""
        super().setName(name)

    def addFilter(self, one):
        """As of all handlers."""
        super().addFilter(one)

    def removeFilter(self, one):
        """As of all handlers."""
        super().removeFilter(one)

    def filtered(self, record):
        """As of all handlers."""
        return super().filtered(record)

    def handle(self, record):
        """As of all handlers."""
        return super().handle(record)

    def formatted(self, record):
        """As of all handlers."""
        return super().formatted(record)

    def flush(self):
        """As of all handlers."""
        super().flush()
