"""Records, and how they are made."""

from recordyard.errors import BadExtra, BadField, BadMessage
from recordyard.kinds import own_copy

# Names that extra may not have, ascending: the least one that it has is reported.
KEPT_NAMES = ("args", "asctime", "created", "levelname", "levelno", "message", "msecs", "msg", "name")


class LogRecord:
    """What is told to loggers, once and for all: it shares nothing with what it was made of."""

    def __init__(self, name, levelno, levelname, msg, given, created, extra):
        self.name = name
        self.levelno = levelno
        self.levelname = levelname
        self.msg = msg
        self.given = own_copy(tuple(given))
        self.created = created
        self.extra = own_copy(extra)

    def field(self, name):
        """The value of a field of the record, or of its extra."""
        # The message is made only for its own field: it may be one that cannot be made.
        if name == "message":
            return self.message()
        if not isinstance(name, str):
            raise BadField(name)
        held = {
            "name": self.name,
            "levelno": self.levelno,
            "levelname": self.levelname,
            "msg": self.msg,
            "args": self.given,
            "created": self.created,
            "msecs": self.created % 1000,
        }
        if name in held:
            return own_copy(held[name])
        if name in self.extra:
            return own_copy(self.extra[name])
        raise BadField(name)

    def message(self):
        """The text that the record tells."""
        if not self.given:
            return self.msg
        return filled(self.msg, self.given)


def filled(msg, given):
    """msg with the args in the places of its empty braces."""
    parts = []
    used = 0
    at = 0
    while at < len(msg):
        pair = msg[at:at + 2]
        if pair == "{}":
            if used == len(given):
                raise BadMessage(msg)
            parts.append(str(given[used]))
            used += 1
            at += 2
        elif pair == "{{" or pair == "}}":
            parts.append(msg[at])
            at += 2
        elif msg[at] == "{" or msg[at] == "}":
            raise BadMessage(msg)
        else:
            parts.append(msg[at])
            at += 1
    if used < len(given):
        raise BadMessage(msg)
    return "".join(parts)


def made_record(levels, created, name, level, msg, args=(), extra=None):
    """A record of a yard with this table of levels, whose clock shows created."""
    levelno = levels.number(level)
    told = {} if extra is None else extra
    for kept in KEPT_NAMES:
        if kept in told:
            raise BadExtra(kept)
    return LogRecord(name, levelno, levels.level_name(levelno), msg, args, created, told)
