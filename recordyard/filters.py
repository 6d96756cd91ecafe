"""Filters, and how records go through several of them."""

from recordyard.records import LogRecord


class Filter:
    """Lets records by that have its name, or one below it; with an empty name, all."""

    def __init__(self, name=""):
        self.name = name

    def passes(self, record):
        """Whether the filter lets the record by."""
        if self.name == "" or record.name == self.name:
            return True
        return record.name.startswith(self.name + ".")


def through_one(one, record):
    """The record as it comes through one filter, or None."""
    if isinstance(one, Filter):
        return record if one.passes(record) else None
    told = one(record)
    if isinstance(told, LogRecord):
        return told
    return record if told else None


def through_all(filters, record):
    """The record as it comes through the filters, one after another, or None."""
    for one in filters:
        record = through_one(one, record)
        if record is None:
            return None
    return record
