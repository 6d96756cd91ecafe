"""Handlers whose files roll over as time goes by."""

from recordyard.errors import BadWhen
from recordyard.files import FileHandler
from recordyard.whens import is_stamp, is_when, next_of, span_of, stamp_of


class TimedRotatingFileHandler(FileHandler):
    """Writes records to a file which becomes a backup, with a stamp, when its time is over."""

    def __init__(self, yard, filename, when="H", interval=1, backupCount=0, delay=False):
        if not is_when(when):
            raise BadWhen(when)
        self.when = when.upper()
        self.interval = interval
        self.backupCount = backupCount
        # Looked at ahead of opening, by which there is a file in any case.
        there = yard.file_store.has(filename)
        start = yard.file_store.time_of(filename) if there else yard.now()
        self.rolloverAt = self.next_turn(start)
        super().__init__(yard, filename, "a", delay)

    def next_turn(self, milliseconds):
        """The second from which on the file rolls over, if it was last done at this time."""
        return next_of(self.when, self.interval, milliseconds // 1000)

    def shouldRollover(self, record):
        """Whether the file's time is over; the record does not matter."""
        return self.yard.now() // 1000 >= self.rolloverAt

    def doRollover(self):
        """Let the file become a backup, unless there is one of its name; take away the eldest ones."""
        files = self.yard.file_store
        start = self.rolloverAt - span_of(self.when, self.interval)
        backup = self.filename + "." + stamp_of(self.when, start)
        if files.has(backup):
            return
        self.rolloverAt = self.next_turn(self.yard.now())
        self.opened = False
        files.rename(self.filename, backup)
        if self.backupCount > 0:
            for name in self.getFilesToDelete():
                files.take_away(name)
        if not self.delay:
            self.open_file()

    def getFilesToDelete(self):
        """The names of the backups beyond the last backupCount ones, ascending."""
        before = self.filename + "."
        backups = []
        for name in self.yard.file_store.all_names():
            if name.startswith(before) and is_stamp(self.when, name[len(before):]):
                backups.append(name)
        return backups[:max(0, len(backups) - self.backupCount)]

    def emit(self, record):
        """Write a record to the file, which rolls over first if its time is over."""
        if self.shouldRollover(record):
            self.doRollover()
        super().emit(record)

    def setLevel(self, level):
        """As of all handlers."""
        super().setLevel(level)

    def setFormatter(self, formatter):
        """As of all handlers."""
        super().setFormatter(formatter)

    def setTerminator(self, text):
        """As of all handlers."""
        super().setTerminator(text)

    def setName(self, name):
        """As of all handlers."""
        super().setName(name)

    def addFilter(self, one):
        """As of all handlers."""
        super().addFilter(one)

    def removeFilter(self, one):
        """As of all handlers."""
        super().removeFilter(one)

    def filtered(self, record):
        """As of all handlers."""
        return super().filtered(record)

    def handle(self, record):
        """As of all handlers."""
        return super().handle(record)

    def formatted(self, record):
        """As of all handlers."""
        return super().formatted(record)

    def flush(self):
        """As of all handlers."""
        super().flush()

    def close(self):
        """As of all handlers."""
        super().close()
