"""Levels, and the tables of their names that each yard has."""

from recordyard.errors import BadLevel
from recordyard.kinds import is_integer

CRITICAL = 50
ERROR = 40
WARNING = 30
INFO = 20
DEBUG = 10
NOTSET = 0

FIRST_NAMES = {50: "CRITICAL", 40: "ERROR", 30: "WARNING", 20: "INFO", 10: "DEBUG", 0: "NOTSET"}
FIRST_NUMBERS = {
    "CRITICAL": 50,
    "FATAL": 50,
    "ERROR": 40,
    "WARNING": 30,
    "WARN": 30,
    "INFO": 20,
    "DEBUG": 10,
    "NOTSET": 0,
}


class LevelTable:
    """The two tables of a yard: from numbers to names, and from names to numbers."""

    def __init__(self):
        self.names = dict(FIRST_NAMES)
        self.numbers = dict(FIRST_NUMBERS)

    def add_level_name(self, level, name):
        """Set both tables; a name that this number had before still leads to it."""
        self.names[level] = name
        self.numbers[name] = level

    def level_name(self, level):
        """The name of a number, which may be an empty one."""
        return self.names.get(level, f"Level {level}")

    def level_names(self):
        """The dict from names to numbers."""
        return dict(self.numbers)

    def knows(self, level):
        """Whether level may be passed as a level: a number, or a name of one."""
        return is_integer(level) or (isinstance(level, str) and level in self.numbers)

    def number(self, level):
        """The number for which a level stands that is passed as one or by its name."""
        if not self.knows(level):
            raise BadLevel(level)
        return level if is_integer(level) else self.numbers[level]

    def stand_as(self, other):
        """Tell of levels what another table tells."""
        self.names = dict(other.names)
        self.numbers = dict(other.numbers)
