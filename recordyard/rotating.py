"""Handlers whose files roll over when they are full."""

from recordyard.errors import BadMode
from recordyard.files import FileHandler, is_mode


class RotatingFileHandler(FileHandler):
    """Writes records to a file which becomes a backup, with a number, ahead of getting too long."""

    def __init__(self, yard, filename, mode="a", maxBytes=0, backupCount=0, delay=False):
        # A mode that is not taken is refused all the same.
        if not is_mode(mode):
            raise BadMode(mode)
        self.maxBytes = maxBytes
        self.backupCount = backupCount
        self.namer = None
        super().__init__(yard, filename, "a" if maxBytes > 0 else mode, delay)

    def setNamer(self, function):
        """Set the function that makes the names of backups, or none by None."""
        self.namer = function

    def backup_name(self, number):
        """The name of the backup with this number."""
        name = f"{self.filename}.{number}"
        namer = self.namer
        return name if namer is None else namer(name)

    def shouldRollover(self, record):
        """Whether the file is to roll over ahead of this record; it is opened in any case."""
        if not self.opened:
            self.open_file()
        written = self.yard.file_store.length(self.filename)
        if self.maxBytes <= 0 or written == 0:
            return False
        return written + len(self.formatted(record)) + 1 >= self.maxBytes

    def doRollover(self):
        """Let the file become the first backup, and each backup the next one."""
        self.opened = False
        if self.backupCount > 0:
            for number in range(self.backupCount - 1, 0, -1):
                self.yard.file_store.rename(self.backup_name(number), self.backup_name(number + 1))
            self.yard.file_store.rename(self.filename, self.backup_name(1))
        if not self.delay:
            self.open_file()

    def emit(self, record):
        """Write a record to the file, which rolls over first if it should."""
        if self.shouldRollover(record):
            self.doRollover()
        super().emit(record)

    def setLevel(self, level):
        """As of all handlers."""
        super().setLevel(level)

    def setFormatter(self, formatter):
        """As of all handlers."""
        super().setFormatter(formatter)

    def setTerminator(self, text):
        """As of all handlers."""
        super().setTerminator(text)

    def setName(self, name):
        """As of all handlers."""
        super().setName(name)

    def addFilter(self, one):
        """As of all handlers."""
        super().addFilter(one)

    def removeFilter(self, one):
        """As of all handlers."""
        super().removeFilter(one)

    def filtered(self, record):
        """As of all handlers."""
        return super().filtered(record)

    def handle(self, record):
        """As of all handlers."""
        return super().handle(record)

    def formatted(self, record):
        """As of all handlers."""
        return super().formatted(record)

    def flush(self):
        """As of all handlers."""
        super().flush()

    def close(self):
        """As of all handlers."""
        super().close()
