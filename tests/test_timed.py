"""[26]: TimedRotatingFileHandler, against Python's own calendar."""

import datetime
import random
import unittest

from recordyard.errors import BadWhen
from recordyard.files import FileHandler
from recordyard.formatters import Formatter
from recordyard.timed import TimedRotatingFileHandler
from recordyard.yards import Yard
from tests.helpers import objects

DAY = 86400
UNITS = {"S": 1, "M": 60, "H": 3600, "D": DAY, "MIDNIGHT": DAY, **{"W" + str(day): 7 * DAY for day in range(7)}}
STAMPS = {"S": "%Y-%m-%d_%H-%M-%S", "M": "%Y-%m-%d_%H-%M", "H": "%Y-%m-%d_%H"}
EPOCH = datetime.datetime(1970, 1, 1)
LAST = 253402300799


def seconds(*parts):
    """The second that a date and a time of day stand for."""
    return int((datetime.datetime(*parts) - EPOCH).total_seconds())


def next_turn(when, interval, second):
    """Next of a time, by the words of the document."""
    if len(when) == 1:
        return second + interval * UNITS[when]
    end = second - second % DAY + DAY
    if when == "MIDNIGHT":
        return end + (interval - 1) * DAY
    weekday = (EPOCH + datetime.timedelta(seconds=second)).weekday()
    while weekday != int(when[1]):
        weekday = (weekday + 1) % 7
        end += DAY
    return end + (interval - 1) * 7 * DAY


def stamp(when, second):
    """The stamp of a time, by Python's own calendar."""
    return (EPOCH + datetime.timedelta(seconds=second)).strftime(STAMPS.get(when, "%Y-%m-%d"))


def tell(handler, *messages):
    """Let a handler handle records with these messages."""
    for message in messages:
        handler.handle(handler.yard.make_record("a", 20, message))


def fail_at(handler):
    """Let a handler handle a record that cannot be formatted."""
    handler.handle(handler.yard.make_record("bad", 20, "{", (1,)))


TIMES = [
    0, 1, 59, 60, 3599, 3600, DAY - 1, DAY, DAY + 1, 7 * DAY, seconds(1970, 1, 5), seconds(1970, 1, 4, 23, 59, 59),
    seconds(1970, 12, 31, 23, 59, 59), seconds(1972, 2, 29), seconds(1999, 12, 31, 23, 59, 59), seconds(2000, 2, 28, 23, 59, 59),
    seconds(2000, 2, 29, 12), seconds(2000, 3, 1), seconds(2023, 2, 28, 23, 59, 59), seconds(2024, 4, 30, 23, 30), seconds(2024, 12, 30),
    seconds(2100, 2, 28, 23, 59, 59), seconds(9999, 12, 31), LAST - 1, LAST,
]


class Making(unittest.TestCase):
    def test_at_first_next_of_now_without_a_file(self):
        for when in UNITS:
            for interval in (1, 2, 7, 1000):
                for second in TIMES:
                    for milliseconds in (0, 999):
                        handler = TimedRotatingFileHandler(Yard(second * 1000 + milliseconds), "log", when, interval)
                        self.assertEqual(handler.rolloverAt, next_turn(when, interval, second), (when, interval, second))

    def test_at_first_next_of_the_files_time(self):
        for when in UNITS:
            for second in TIMES[:-2]:
                for delay in (False, True):
                    yard = Yard(second * 1000 + 999)
                    yard.put_file("log", "x")
                    yard.advance(10 ** 6)
                    handler = TimedRotatingFileHandler(yard, "log", when, 2, 0, delay)
                    self.assertEqual(handler.rolloverAt, next_turn(when, 2, second))
                    self.assertEqual(yard.files(), {"log": "x"})

    def test_random_times(self):
        dice = random.Random(26)
        for _ in range(2000):
            when, interval, second = dice.choice(list(UNITS)), dice.randrange(1, 1001), dice.randrange(LAST + 1)
            handler = TimedRotatingFileHandler(Yard(second * 1000), "log", when, interval, 0, True)
            self.assertEqual(handler.rolloverAt, next_turn(when, interval, second))
            tell(handler, "m")
            if handler.rolloverAt <= LAST:
                handler.yard.advance((handler.rolloverAt - second) * 1000)
                name = "log." + stamp(when, handler.rolloverAt - interval * UNITS[when])
                tell(handler, "n")
                self.assertEqual(handler.yard.files(), {"log": "n\n", name: "m\n"})

    def test_weekdays_at_ahead_of_and_behind_their_ends(self):
        # The first Monday of 1970 was the fifth of January.
        for day in range(7):
            end = seconds(1970, 1, 6) + day * DAY
            told = []
            for second in (end - DAY - 1, end - DAY, end - 1, end, end + 1):
                told.append(TimedRotatingFileHandler(Yard(second * 1000), "log", "W" + str(day)).rolloverAt - end)
            self.assertEqual(told, [0, 0, 0, 7 * DAY, 7 * DAY])

    def test_letters_of_either_case(self):
        for when in ("s", "m", "h", "d", "midnight", "MidNight", "mIDNIGHT", "w0", "w6", "W3"):
            handler = TimedRotatingFileHandler(Yard(7000), "log", when)
            self.assertEqual(handler.rolloverAt, next_turn(when.upper(), 1, 7))

    def test_parameters(self):
        yard = Yard(5000)
        self.assertEqual(TimedRotatingFileHandler(yard, "a").rolloverAt, 3605)
        handler = TimedRotatingFileHandler(delay=True, backupCount=1, interval=3, when="S", filename="b", yard=yard)
        self.assertEqual((handler.filename, handler.rolloverAt, yard.files()), ("b", 8, {"a": ""}))
        self.assertIs(type(handler.rolloverAt), int)

    def test_wrong_words(self):
        wrong = objects() + ["", "W", "W7", "W-1", "W00", "w", "SS", "s ", " S", "N", "days", "MIDNIGHT ", "mid", "W 1", "0", "W\n1", "\u017f"]
        yard = Yard()
        handlers = len(yard.roster.handlers)
        for when in wrong:
            with self.assertRaises(BadWhen) as caught:
                TimedRotatingFileHandler(yard, "log", when)
            self.assertIs(caught.exception.when, when)
        self.assertEqual((yard.files(), len(yard.roster.handlers)), ({}, handlers))

    def test_the_mode_is_a(self):
        yard = Yard()
        yard.put_file("log", "x")
        handler = TimedRotatingFileHandler(yard, "log")
        tell(handler, "m")
        self.assertEqual(yard.files(), {"log": "xm\n"})


class Asking(unittest.TestCase):
    def test_at_the_second_itself_one_ahead_of_it_and_behind(self):
        for when in UNITS:
            yard = Yard(1000)
            handler = TimedRotatingFileHandler(yard, "log", when)
            record = yard.make_record("a", 20, "{", (1,))
            told = []
            yard.advance((handler.rolloverAt - 1) * 1000 - 2)
            for milliseconds in (0, 1, 1, 1, 1000, 10 ** 9):
                yard.advance(milliseconds)
                told.append(handler.shouldRollover(record=record))
            self.assertEqual(told, [False, False, True, True, True, True])
            self.assertEqual(yard.files(), {"log": ""})

    def test_milliseconds_are_left_out(self):
        yard = Yard(999)
        handler = TimedRotatingFileHandler(yard, "log", "S")
        record = yard.make_record("a", 20, "m")
        self.assertEqual((handler.rolloverAt, handler.shouldRollover(record)), (1, False))
        yard.advance(1)
        self.assertIs(handler.shouldRollover(record), True)

    def test_asking_opens_no_file(self):
        yard = Yard()
        handler = TimedRotatingFileHandler(yard, "log", delay=True)
        handler.shouldRollover(yard.make_record("a", 20, "m"))
        self.assertEqual(yard.files(), {})


class RollingOver(unittest.TestCase):
    def setUp(self):
        self.yard = Yard()
        self.files = self.yard.files

    def make(self, *more, **words):
        return TimedRotatingFileHandler(self.yard, "log", *more, **words)

    def test_ahead_of_the_record(self):
        handler = self.make("S", 10)
        tell(handler, "a")
        self.yard.advance(9999)
        tell(handler, "b")
        self.yard.advance(1)
        tell(handler, "c")
        self.assertEqual(self.files(), {"log": "c\n", "log.1970-01-01_00-00-00": "a\nb\n"})
        self.assertEqual(handler.rolloverAt, 20)
        self.yard.advance(12345)
        tell(handler, "d", "e")
        self.assertEqual(self.files()["log.1970-01-01_00-00-10"], "c\n")
        self.assertEqual((self.files()["log"], handler.rolloverAt), ("d\ne\n", 32))

    def test_the_stamp_of_each_word(self):
        start = seconds(2024, 2, 29, 23, 59, 58)
        for when in UNITS:
            for interval in (1, 3):
                self.yard = Yard(start * 1000 + 500)
                handler = self.make(when, interval)
                first = handler.rolloverAt
                tell(handler, "m")
                self.yard.advance((first - start) * 1000)
                tell(handler, "n")
                name = "log." + stamp(when, first - interval * UNITS[when])
                self.assertEqual(self.yard.files(), {"log": "n\n", name: "m\n"})

    def test_stamps_told_in_full(self):
        start = seconds(1999, 12, 31, 23, 59, 59)
        for when, told in (
            ("S", "1999-12-31_23-59-59"), ("M", "1999-12-31_23-59"), ("H", "1999-12-31_23"), ("D", "1999-12-31"), ("MIDNIGHT", "1999-12-31"),
            # It was a Friday: the weeks that end with other days began on the days behind these.
            ("W0", "1999-12-28"), ("W3", "1999-12-31"), ("W4", "1999-12-25"), ("W5", "1999-12-26"), ("W6", "1999-12-27"),
        ):
            self.yard = Yard(start * 1000)
            handler = self.make(when)
            handler.doRollover()
            self.assertEqual(self.yard.files(), {"log": "", "log." + told: ""}, when)

    def test_stamps_ahead_of_1970(self):
        for day, told in ((3, "1969-12-26"), (4, "1969-12-27"), (0, "1969-12-30"), (2, "1970-01-01")):
            self.yard = Yard()
            handler = self.make("W" + str(day))
            handler.doRollover()
            # The first of January was a Thursday, so the week of W2 ends with the seventh.
            self.assertEqual(list(self.yard.files()), ["log", "log." + told])

    def test_in_the_year_9999(self):
        for when in UNITS:
            self.yard = Yard(LAST * 1000 + 999)
            handler = self.make(when, 1000)
            handler.doRollover()
            name = "log." + stamp(when, next_turn(when, 1, LAST) - UNITS[when])
            self.assertEqual(self.yard.files(), {"log": "", name: ""})

    def test_by_hand_at_any_time(self):
        handler = self.make("S", 100)
        tell(handler, "a")
        self.yard.advance(5000)
        self.assertIsNone(handler.doRollover())
        self.assertEqual((self.files(), handler.rolloverAt), ({"log": "", "log.1970-01-01_00-00-00": "a\n"}, 105))
        tell(handler, "b")
        handler.doRollover()
        self.assertEqual(self.files(), {"log": "", "log.1970-01-01_00-00-00": "a\n", "log.1970-01-01_00-00-05": "b\n"})
        tell(handler, "c")
        handler.doRollover()
        self.assertEqual((self.files()["log"], handler.rolloverAt), ("c\n", 105))

    def test_a_file_that_has_the_stamps_name_already(self):
        for delay in (False, True):
            self.setUp()
            handler = self.make("M", 1, 1, delay)
            tell(handler, "a")
            for name in ("log.1970-01-01_00-00", "log.1969-12-31_23-59", "log.1969-12-31_23-58"):
                self.yard.put_file(name, "x")
            before = self.files()
            self.yard.advance(60000)
            handler.doRollover()
            self.assertEqual((self.files(), handler.rolloverAt), (before, 60))
            handler.close()
            self.yard.remove_file("log")
            handler.doRollover()
            self.assertEqual(handler.rolloverAt, 60)
            self.assertNotIn("log", self.files())
            tell(handler, "b", "c")
            self.assertEqual(self.files()["log"], "b\nc\n")
            self.yard.remove_file("log.1970-01-01_00-00")
            tell(handler, "d")
            self.assertEqual(self.files(), {"log": "d\n", "log.1970-01-01_00-00": "b\nc\n"})
            self.assertEqual(handler.rolloverAt, 120)

    def test_the_file_not_there(self):
        for delay in (False, True):
            self.setUp()
            handler = self.make("S", 1, 0, delay)
            self.yard.remove_file("log")
            self.yard.advance(3000)
            handler.doRollover()
            self.assertEqual((self.files(), handler.rolloverAt), ({} if delay else {"log": ""}, 4))
            tell(handler, "m")
            self.assertEqual(self.files(), {"log": "m\n"})

    def test_with_delay_the_time_goes_on_too(self):
        handler = self.make("S", 5, 0, True)
        self.yard.advance(7000)
        tell(handler, "a")
        self.assertEqual((self.files(), handler.rolloverAt), ({"log": "a\n"}, 12))
        handler.doRollover()
        self.assertEqual((self.files(), handler.rolloverAt), ({"log.1970-01-01_00-00-07": "a\n"}, 12))
        tell(handler, "b")
        self.assertEqual(self.files()["log"], "b\n")

    def test_a_record_that_cannot_be_formatted(self):
        for delay in (False, True):
            self.setUp()
            handler = self.make("S", 1, 0, delay)
            tell(handler, "a")
            self.yard.advance(1000)
            fail_at(handler)
            self.assertEqual(self.files(), {"log": "", "log.1970-01-01_00-00-00": "a\n"})
            handler.setFormatter(Formatter("{k}"))
            self.yard.advance(1000)
            fail_at(handler)
            self.assertEqual(self.files(), {"log": "", "log.1970-01-01_00-00-00": "a\n", "log.1970-01-01_00-00-01": ""})
            self.assertEqual(self.yard.failures(), [("bad", "message"), ("bad", "field")])

    def test_what_filters_hold_back_rolls_nothing_over(self):
        handler = self.make("S")
        handler.addFilter(lambda record: False)
        self.yard.advance(5000)
        tell(handler, "a")
        self.assertEqual((self.files(), handler.rolloverAt), ({"log": ""}, 1))

    def test_a_handler_that_was_closed(self):
        for delay in (False, True):
            self.setUp()
            handler = self.make("S", 2, 0, delay)
            tell(handler, "a")
            handler.close()
            tell(handler, "b")
            handler.close()
            self.yard.advance(2000)
            tell(handler, "c")
            self.assertEqual(self.files(), {"log": "c\n", "log.1970-01-01_00-00-00": "a\nb\n"})

    def test_two_handlers_on_one_file(self):
        one, two = self.make("S", 2), FileHandler(self.yard, "log")
        tell(one, "a")
        tell(two, "b")
        self.yard.advance(2000)
        tell(two, "c")
        tell(one, "d")
        tell(two, "e")
        self.assertEqual(self.files(), {"log": "d\ne\n", "log.1970-01-01_00-00-00": "a\nb\nc\n"})


class TimesOfFiles(unittest.TestCase):
    def setUp(self):
        self.yard = Yard()

    def started(self, filename):
        """The time of a file in seconds, as a new handler takes it."""
        return TimedRotatingFileHandler(self.yard, filename, "S", 1, 0, True).rolloverAt - 1

    def test_of_what_was_put_written_to_and_opened(self):
        self.yard.advance(3000)
        self.yard.put_file("log", "x")
        self.yard.advance(3000)
        self.assertEqual((self.started("log"), self.started("none")), (3, 6))
        handler = FileHandler(self.yard, "log")
        fail_at(handler)
        self.assertEqual(self.started("log"), 3)
        tell(handler, "m")
        self.yard.advance(3000)
        self.assertEqual(self.started("log"), 6)
        handler.setTerminator("")
        tell(handler, "")
        self.yard.advance(3000)
        self.assertEqual(self.started("log"), 9)
        FileHandler(self.yard, "log", "w")
        self.yard.advance(3000)
        self.assertEqual(self.started("log"), 12)
        self.yard.put_file("log", "")
        self.assertEqual(self.started("log"), 15)

    def test_a_renamed_file_keeps_its_time(self):
        handler = TimedRotatingFileHandler(self.yard, "log", "S", 2)
        self.yard.advance(1000)
        tell(handler, "a")
        self.yard.advance(3000)
        tell(handler, "b")
        self.yard.advance(1000)
        self.assertEqual((self.started("log.1970-01-01_00-00-00"), self.started("log")), (1, 4))


class Backups(unittest.TestCase):
    def setUp(self):
        self.yard = Yard()

    def test_files_to_delete(self):
        names = ["9999-99-99", "1970-01-02", "0000-00-00", "2024-01-01", "1970-01-01"]
        for name in names:
            self.yard.put_file("log." + name, "x")
        ascending = ["log." + name for name in sorted(names)]
        for count in range(8):
            for when in ("D", "MIDNIGHT", "W0", "W6"):
                handler = TimedRotatingFileHandler(self.yard, "log", when, 1, count)
                self.assertEqual(handler.getFilesToDelete(), ascending[:max(0, 5 - count)])
        handler.getFilesToDelete().clear()
        self.assertIs(type(handler.getFilesToDelete()), list)

    def test_names_that_are_only_alike(self):
        stamps = {"S": "1970-01-01_00-00-00", "M": "1970-01-01_00-00", "H": "1970-01-01_00", "D": "1970-01-01"}
        wrong = [
            "1970-01-01x", "x1970-01-01", "1970-1-1", "1970-01-0", "1970-01-011", "1970_01_01", "1970-01-01 00", "1970-01-01_0", "",
            "1970-01-01_00:00", "1970-01-01_00-00-0", "1970-01-01_00-00-00.gz", "197o-01-01", "-970-01-01", "1970-01-01.", "19700-1-01",
            "1970-01--1", "1970-01-01-00", "1970-01-01_00_00",
        ]
        for stem in wrong + list(stamps.values()):
            self.yard.put_file("log." + stem, "x")
        for name in ("log1970-01-01", "log", "xlog.1970-01-01", "log.x.1970-01-01", "lo.1970-01-01", "1970-01-01", "log-1970-01-01"):
            self.yard.put_file(name, "x")
        for when, told in stamps.items():
            handler = TimedRotatingFileHandler(self.yard, "log", when)
            self.assertEqual(handler.getFilesToDelete(), ["log." + told])

    def test_they_are_taken_away_behind_a_rollover(self):
        handler = TimedRotatingFileHandler(self.yard, "log", "S", 1, 2)
        self.yard.put_file("log.9999-99-99", "other")
        for message in "abcde":
            tell(handler, message)
            self.yard.advance(1000)
        self.assertEqual(self.yard.files(), {
            "log": "e\n", "log.1970-01-01_00-00-03": "d\n", "log.1970-01-01_00-00-02": "c\n", "log.9999-99-99": "other",
        })

    def test_the_new_one_may_be_taken_away_itself(self):
        for name in ("log.9999-99-99_00-00-00", "log.9999-99-99_00-00-01"):
            self.yard.put_file(name, "x")
        handler = TimedRotatingFileHandler(self.yard, "log", "S", 1, 1)
        tell(handler, "a")
        handler.doRollover()
        self.assertEqual(self.yard.files(), {"log": "", "log.9999-99-99_00-00-01": "x"})

    def test_no_number_of_backups(self):
        handler = TimedRotatingFileHandler(self.yard, "log", "S")
        for message in "abc":
            tell(handler, message)
            self.yard.advance(1000)
        self.assertEqual(len(self.yard.files()), 3)
        self.assertEqual(handler.getFilesToDelete(), ["log.1970-01-01_00-00-00", "log.1970-01-01_00-00-01"])

    def test_they_are_taken_away_though_the_file_is_not_there(self):
        handler = TimedRotatingFileHandler(self.yard, "log", "D", 1, 1, True)
        self.yard.put_file("log.1971-01-01", "x")
        self.yard.put_file("log.1972-01-01", "y")
        handler.doRollover()
        self.assertEqual(self.yard.files(), {"log.1972-01-01": "y"})
