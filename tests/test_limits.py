"""[5]: judged yards as great as they may be; what is asked of them is answered in a time that a person would wait for."""

import time
import unittest

from recordyard.changes import change, laid, swapped
from recordyard.copies import copied
from recordyard.deeds import deeds, done, idle
from recordyard.differences import alike, difference
from recordyard.filters import Filter
from recordyard.formatters import Formatter
from recordyard.handlers import StreamHandler
from recordyard.judging import offence, outcome
from recordyard.overlays import overlaid, overlay
from recordyard.tables import bounds, mentions, table, told_by
from recordyard.yards import Yard
from tests.small import told

FIELDS = ("{name}", "{levelname}", "{message}", "{levelno}")
SECONDS = 60


def name_of(number, parts=8):
    """One of the names of eight parts, of which several have common beginnings."""
    letters = "abcdefghijklmnopqrstuvwxyz"
    return ".".join(letters[(number // (at + 1)) % 4] + letters[number % 26] * (at > 4) for at in range(parts))


def great_format(number):
    """A format of a hundred fields."""
    return "".join(FIELDS[(at + number) % 4] + "." * (1 + at % 3) for at in range(100))


def great_yard(loggers=20, handlers=10, filters=50, seed=0):
    yard = Yard()
    for number in range(24):
        yard.add_level_name(10000 - 411 * number, f"level {number}")
    for number in range(handlers):
        handler = StreamHandler(yard, f"stream {number}")
        handler.setFormatter(Formatter(great_format(number)))
        handler.setLevel((seed + number * 997) % 10001)
        handler.setName(f"h{number}")
        yard.root.addHandler(handler)
    names = [name_of(seed + 3 * number) for number in range(loggers)]
    for number, name in enumerate(names):
        logger = yard.getLogger(name)
        logger.setLevel((number * 503 + seed) % 10001)
        logger.addHandler(yard.root.handlers[number % handlers])
        logger.setPropagate(number % 5 != 0)
    for number in range(filters):
        parts = name_of(seed + 3 * (number % max(1, loggers)), 1 + number % 8)
        owner = yard.root.handlers[number % handlers] if number % 3 == 0 else yard.getLogger(names[number % loggers])
        owner.addFilter(Filter("" if number % 4 == 0 else parts))
    yard.root.setLevel(1)
    yard.disable(7)
    return yard


class Limits(unittest.TestCase):
    def timed(self, function, *arguments):
        start = time.monotonic()
        result = function(*arguments)
        self.assertLess(time.monotonic() - start, SECONDS)
        return result

    def check(self, one, other):
        """The difference, which is not the same as before if it is one."""
        record = self.timed(difference, one, other)
        self.assertEqual(self.timed(difference, other, one), record)
        if record is not None:
            self.assertNotEqual(outcome(one, record), outcome(other, record))
        return record

    def test_differences(self):
        yard = great_yard()
        self.assertIsNone(offence(yard))
        self.assertIsNone(self.check(yard, great_yard()))
        self.assertIsNotNone(self.check(yard, great_yard(seed=1)))
        for name in yard.loggers():
            other = copied(yard)
            other.getLogger(name).setDisabled(True)
            self.check(yard, other)
        other = copied(yard)
        other.add_level_name(10001, "beyond")
        self.assertEqual(self.check(yard, other)[1:], (10001, ""))

    def test_lines_that_are_made_otherwise(self):
        one, other = (great_yard(filters=0) for _ in range(2))
        for handler in other.root.handlers:
            # The same fields, but the last sign goes to the terminator.
            handler.setFormatter(Formatter(great_format(int(handler.name[1:]))[:-1]))
            handler.setTerminator(".\n")
        self.assertIsNone(self.check(one, other))
        self.assertTrue(alike(one, other))

    def test_tables(self):
        yard = great_yard()
        names, levels = self.timed(mentions, [yard]), self.timed(bounds, [yard])
        self.assertGreater(len(names), 60)
        self.assertGreater(len(levels), 60)
        rows = self.timed(table, yard, names, levels)
        self.assertEqual(len(rows), 2 * len(names) * len(levels))
        for name in ("", "a", names[-1], names[-1] + ".x.y", "q"):
            for level in (1, 8, 1000, 10000, 10001):
                record = (name, level, "abc")
                self.assertEqual(told_by(rows, record), outcome(yard, record))
                self.assertEqual(outcome(yard, record), told(yard, record))

    def test_idle_deeds(self):
        yard = great_yard(loggers=5, handlers=6, filters=9)
        self.assertLessEqual(30, len(deeds(yard)))
        self.assertLessEqual(len(deeds(yard)), 40)
        pairs = self.timed(idle, yard)
        self.assertEqual([pair[0] for pair in pairs], deeds(yard))
        for deed, record in pairs[::7]:
            self.assertEqual(difference(yard, done(yard, deed)), record)

    def overlay_yard(self):
        """With four loggers and handlers with names, together, and four levels."""
        yard = great_yard(loggers=2, filters=30)
        for number, handler in enumerate(yard.root.handlers):
            handler.setLevel((0, 300, 7000)[number % 3])
            if number > 1:
                handler.setName(None)
        yard.root.setLevel(20)
        for name, level in zip(yard.loggers(), (300, 9999)):
            yard.getLogger(name).setLevel(level)
        return yard

    def test_overlays(self):
        yard = self.overlay_yard()
        goal = laid(yard, overlaid([("handlers", "h0", "level", 7000), ("root", "level", 9999)]))
        entries = self.timed(overlay, yard, goal)
        self.assertTrue(alike(laid(yard, overlaid(entries)), goal))
        self.assertEqual(len(entries), 2)
        goal.root.handlers[-1].setTerminator("")
        self.assertIsNone(self.timed(overlay, yard, goal))

    def test_an_overlay_that_fails_at_the_last_name_alone(self):
        yard = self.overlay_yard()
        goal = copied(yard)
        goal.getLogger(goal.loggers()[-1]).setDisabled(True)
        self.assertIsNone(self.timed(overlay, yard, goal))

    def test_changes(self):
        yard = great_yard()
        settings = {"version": 1, "incremental": True, "handlers": {f"h{number}": {"level": 500} for number in range(10)}}
        record = self.timed(change, yard, settings)
        self.assertNotEqual(outcome(yard, record), outcome(laid(yard, settings), record))
        whole = {"version": 1, "loggers": {name: {"level": 5} for name in yard.loggers()}}
        self.assertIsNotNone(self.timed(swapped, yard, settings, settings | {"root": {"level": 20}, "handlers": {"h0": {"level": 0}}}))
        self.assertIsNotNone(self.timed(change, yard, whole))

    def test_long_streams_and_files(self):
        yard = great_yard(loggers=2, filters=0)
        for number in range(10):
            yard.put_file(f"file {number}", "x" * 500000)
            handler = StreamHandler(yard, f"stream {number}")
            for _ in range(250):
                handler.handle(yard.make_record("a", 5, "y" * 1999))
        pairs = self.timed(idle, yard)
        self.assertGreater(len(pairs), 10)
        self.assertEqual((len(yard.text("stream 1")), len(self.timed(copied, yard).text("stream 1"))), (500000, 500000))

    def test_deep_settings(self):
        deep = "end"
        for _ in range(300):
            deep = [deep]
        settings = {
            "version": 1, "formatters": {"f": {"format": "{x}", "defaults": {"x": deep}}}, "handlers": {"h": {"class": "stream", "formatter": "f"}},
            "root": {"handlers": ["h"]},
        }
        yard = laid(laid(Yard(), settings), {"version": 1, "incremental": True})
        yard.root.error("m")
        self.assertEqual(yard.text("stderr"), "[" * 300 + "'end'" + "]" * 300 + "\n")
