"""When files roll over by time: the words for it, the times, and the stamps of the files' new names.

All times here are whole seconds from the beginning of 1970.
"""

from recordyard.kinds import DIGITS
from recordyard.times import SECONDS_OF_DAY, date_text, hours_text

# The words in capitals, each with the seconds of which intervals are counted.
UNITS = {
    "S": 1,
    "M": 60,
    "H": 3600,
    "D": 86400,
    "MIDNIGHT": 86400,
    "W0": 604800,
    "W1": 604800,
    "W2": 604800,
    "W3": 604800,
    "W4": 604800,
    "W5": 604800,
    "W6": 604800,
}
# How much of a whole stamp is taken; for all other words it is the date alone.
STAMP_LENGTHS = {"S": 19, "M": 16, "H": 13}
DATE_LENGTH = 10
STAMP_SHAPE = "0000-00-00_00-00-00"


def is_when(thing):
    """Whether thing is one of the words, in letters of either case."""
    # Some letters beyond ASCII have capitals within it.
    return isinstance(thing, str) and thing.isascii() and thing.upper() in UNITS


def span_of(when, interval):
    """The seconds from one rollover to the next one."""
    return UNITS[when] * interval


def next_of(when, interval, seconds):
    """The time of the rollover that follows upon a time."""
    return first_of(when, seconds) + span_of(when, interval - 1)


def first_of(when, seconds):
    """The time of the rollover that follows with an interval of 1."""
    tomorrow = seconds // SECONDS_OF_DAY + 1
    if when == "MIDNIGHT":
        return tomorrow * SECONDS_OF_DAY
    if when.startswith("W"):
        days = (int(when[1]) - weekday(tomorrow - 1)) % 7
        return (tomorrow + days) * SECONDS_OF_DAY
    return seconds + UNITS[when]


def weekday(day):
    """The weekday of a day that is counted from the first one of 1970, a Thursday; Monday is 0."""
    return (day + 3) % 7


def stamp_length(when):
    """How long the stamps are."""
    return STAMP_LENGTHS.get(when, DATE_LENGTH)


def stamp_of(when, seconds):
    """The stamp of a time."""
    hours = hours_text(seconds, "-")
    whole = f"{date_text(seconds)}_{hours}"
    return whole[:stamp_length(when)]


def is_stamp(when, text):
    """Whether text has the digits and signs of a stamp at their places, of whatever time."""
    if len(text) != stamp_length(when):
        return False
    return all(fits(sign, text[at]) for at, sign in enumerate(STAMP_SHAPE[:len(text)]))


def fits(shape, sign):
    """Whether a sign fits one of the shape, in which a 0 stands for any digit."""
    return sign in DIGITS if shape == "0" else sign == shape
