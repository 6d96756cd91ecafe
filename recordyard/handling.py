"""What handlers of all classes have in common."""

from recordyard.errors import BadField, BadMessage
from recordyard.filters import through_all
from recordyard.levels import NOTSET


class Handler:
    """What the classes of handlers are built upon: each one says in emit what it does with a record."""

    def __init__(self, yard):
        self.yard = yard
        self.level = NOTSET
        self.formatter = None
        self.filters = []
        self.name = None
        self.terminator = "\n"
        self.closed = False
        yard.roster.enter(self)

    def setLevel(self, level):
        """Set the level, a number or a name of one."""
        self.level = self.yard.levels.number(level)

    def setFormatter(self, formatter):
        """Set the formatter, or none by None."""
        self.formatter = formatter

    def setTerminator(self, text):
        """Set what is written behind each record."""
        self.terminator = text

    def setName(self, name):
        """Set the name, which leads here then; the earlier one leads nowhere any more."""
        self.yard.roster.free(self.name)
        self.name = name
        if name is not None:
            self.yard.roster.lead(name, self)

    def addFilter(self, one):
        """Put a filter behind the others."""
        if one not in self.filters:
            self.filters.append(one)

    def removeFilter(self, one):
        """Take a filter out."""
        if one in self.filters:
            self.filters.remove(one)

    def filtered(self, record):
        """The record as it comes through the filters, or None."""
        return through_all(self.filters, record)

    def handle(self, record):
        """Emit what comes through the filters; whether something does."""
        left = self.filtered(record)
        if left is None:
            return False
        try:
            self.emit(left)
        except BadMessage:
            self.yard.roster.fail(left, "message")
        except BadField:
            self.yard.roster.fail(left, "field")
        return True

    def emit(self, record):
        """Do what the class does with a record that came through the filters: here nothing."""

    def formatted(self, record):
        """The text that the formatter makes of a record, or its message."""
        if self.formatter is None:
            return record.message()
        return self.formatter.formatted(record)

    def line(self, record):
        """What is written for a record."""
        return self.formatted(record) + self.terminator

    def flush(self):
        """Do what the class does with what it holds back: here nothing."""

    def close(self):
        """Close the handler: its name leads nowhere any more, though the handler keeps it."""
        self.closed = True
        self.yard.roster.free(self.name)
