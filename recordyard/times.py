"""The clock of a yard, and the dates and times of day that it stands for, all in UTC."""

DAYS_BEFORE_1970 = 719162
SECONDS_OF_DAY = 86400
DAYS_OF_MONTHS = (31, 28, 31, 30, 31, 30, 31, 31, 30, 31, 30, 31)


class Clock:
    """Shows milliseconds from the beginning of 1970, and only moves when it is told to."""

    def __init__(self, shown):
        self.shown = shown

    def now(self):
        """What the clock shows."""
        return self.shown

    def advance(self, milliseconds):
        """Move the clock on."""
        self.shown += milliseconds


def first_day(year):
    """The first day of a year, counted from the first one of 1970."""
    past = year - 1
    return past * 365 + past // 4 - past // 100 + past // 400 - DAYS_BEFORE_1970


def month_days(year, month):
    """How many days a month has."""
    leap = first_day(year + 1) - first_day(year) - 365
    return DAYS_OF_MONTHS[month - 1] + (leap if month == 2 else 0)


def date_of(day):
    """Year, month and day of the month of a day that is counted from the first one of 1970."""
    # Leap days put the guess at most a few years off, so few steps lead to the year.
    year = 1970 + day // 365
    while first_day(year) > day:
        year -= 1
    while first_day(year + 1) <= day:
        year += 1
    month = 1
    left = day - first_day(year)
    while left >= month_days(year, month):
        left -= month_days(year, month)
        month += 1
    return year, month, left + 1


def date_text(seconds):
    """The date of a time, with lines between its parts."""
    year, month, day = date_of(seconds // SECONDS_OF_DAY)
    return f"{year:04d}-{month:02d}-{day:02d}"


def hours_text(seconds, sign):
    """The time of day of a time, with a sign between its parts."""
    hour = seconds // 3600 % 24
    minute = seconds // 60 % 60
    second = seconds % 60
    return f"{hour:02d}{sign}{minute:02d}{sign}{second:02d}"


def time_text(milliseconds):
    """The time as the field asctime shows it."""
    seconds = milliseconds // 1000
    hours = hours_text(seconds, ":")
    beyond = milliseconds % 1000
    return f"{date_text(seconds)} {hours},{beyond:03d}"
