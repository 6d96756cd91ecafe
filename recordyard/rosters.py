"""The roster of a yard's handlers."""


class Roster:
    """All handlers of a yard, as they were made; where names lead; what could not be formatted."""

    def __init__(self):
        self.handlers = []
        self.leading = {}
        self.failed = []

    def enter(self, handler):
        """Put a handler that is made behind those that were made earlier."""
        self.handlers.append(handler)

    def lead(self, name, handler):
        """Let a name lead to a handler, and to no other one any more."""
        self.leading[name] = handler

    def free(self, name):
        """Let a name lead to none, whichever handler it led to."""
        if name in self.leading:
            del self.leading[name]

    def free_all(self):
        """Let all names lead to none."""
        self.leading = {}

    def led_to(self, name):
        """The handler to which a name leads, or None."""
        return self.leading.get(name)

    def leading_names(self):
        """The names that lead to handlers, ascending."""
        return sorted(self.leading)

    def fail(self, record, word):
        """Keep a failure: word tells what of the record could not be made."""
        self.failed.append((record.name, word))

    def failures(self):
        """The failures, in the order in which they were kept."""
        return list(self.failed)

    def keep_failures(self, failures):
        """Keep these failures, and no others."""
        self.failed = list(failures)

    def close_all(self):
        """Close the handlers that have not been closed, the youngest one first."""
        for handler in self.handlers[::-1]:
            if not handler.closed:
                handler.close()
