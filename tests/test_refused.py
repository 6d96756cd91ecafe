"""[4], [45]: calls that are refused, each of which raises its error with what was passed, and changes nothing."""

import unittest

from recordyard.adapters import LoggerAdapter
from recordyard.changes import change, laid, swapped
from recordyard.deeds import done, idle
from recordyard.differences import alike, difference
from recordyard.errors import (
    BadCuts, BadDeed, BadExtra, BadField, BadFormat, BadLevel, BadMessage, BadMode, BadName, BadSettings, BadStyle, BadWhen, NotJudged, YardError,
)
from recordyard.files import FileHandler
from recordyard.formatters import Formatter
from recordyard.handlers import StreamHandler
from recordyard.judging import outcome
from recordyard.overlays import overlay
from recordyard.queues import Queue, QueueHandler
from recordyard.rotating import RotatingFileHandler
from recordyard.settings import configure
from recordyard.tables import bounds, mentions, table
from recordyard.timed import TimedRotatingFileHandler
from recordyard.yards import Yard
from tests.helpers import Asked, objects, one_of_each, standing


class Refused(unittest.TestCase):
    def setUp(self):
        self.yard = Yard(5000)
        self.handlers = one_of_each(self.yard)
        for number, handler in enumerate(self.handlers):
            handler.setName(f"h{number}")
            self.yard.root.addHandler(handler)
        self.yard.getLogger("a.b").setLevel(5)
        self.yard.root.error("m")
        self.yard.root.error("{", (1,))

    def refused(self, error, field, value, *calls):
        """Each call raises the error, twice, with this very object in its field, and the yard stays as it is."""
        before = standing(self.yard)
        for number, call in enumerate(calls):
            for _ in range(2):
                with self.assertRaises(error, msg=(number, value)) as caught:
                    call()
                self.assertIs(type(caught.exception), error)
                self.assertIsInstance(caught.exception, YardError)
                if field is not None:
                    self.assertIs(getattr(caught.exception, field), value)
        self.assertEqual(standing(self.yard), before)

    def told(self, error, field, value, *calls):
        """As refused, where the object in the field is one that the program made."""
        before = standing(self.yard)
        for call in calls:
            for _ in range(2):
                with self.assertRaises(error) as caught:
                    call()
                self.assertEqual(getattr(caught.exception, field), value)
                self.assertIs(type(getattr(caught.exception, field)), type(value))
        self.assertEqual(standing(self.yard), before)

    def test_levels(self):
        yard, logger = self.yard, self.yard.getLogger("a.b")
        adapter = LoggerAdapter(logger)
        for thing in [thing for thing in objects() if type(thing) is not int] + ["info", "Level 10", "10"]:
            self.refused(
                BadLevel, "level", thing, lambda: yard.make_record("a", thing, "m", (), {"name": 1}), lambda: yard.disable(thing),
                lambda: logger.setLevel(thing), lambda: adapter.setLevel(thing), lambda: logger.log(thing, "m", (), {"name": 1}),
                lambda: adapter.log(thing, "m"), *[lambda handler=handler: handler.setLevel(thing) for handler in self.handlers],
            )
        self.refused(BadLevel, "level", "ERROR", lambda: logger.log("ERROR", "m"))

    def test_names(self):
        yard, logger = self.yard, self.yard.getLogger("a.b")
        for thing in [thing for thing in objects() if type(thing) is not str] + ["a.", ".a", "a..b", " ", "a b", "two\nlines", "{}", "it's"]:
            self.refused(BadName, "name", thing, lambda: yard.getLogger(thing), lambda: yard.root.getChild(thing), lambda: logger.getChild(thing))
        self.refused(BadName, "name", "", lambda: logger.getChild(""))

    def test_extras(self):
        yard, extra = self.yard, {"name": 1, "args": 2, "k": 3}
        adapter = LoggerAdapter(yard.root, extra)
        calls = [lambda: yard.make_record("a", 5, "m", (), extra), lambda: yard.root.log(30, "m", (), extra), lambda: adapter.error("m")]
        calls += [lambda name=name: getattr(yard.root, name)("m", (), extra) for name in ("warning", "error", "critical")]
        self.told(BadExtra, "name", "args", *calls)
        self.assertIsNone(yard.root.debug("m", (), extra))

    def test_messages_and_fields(self):
        yard = self.yard
        for msg in ("{", "}", "{}{}", "", "{x}", "}{}"):
            record = yard.make_record("a", 30, msg, (1,))
            calls = [lambda handler=handler: handler.formatted(record) for handler in self.handlers]
            self.refused(BadMessage, "msg", msg, record.message, lambda: record.field("message"), lambda: Formatter().formatted(record), *calls)
        record = yard.make_record("a", 30, "m", (), {"x": 1})
        for name in ("y", "asctime", "given", ""):
            self.refused(BadField, "name", name, lambda: record.field(name))
        self.told(BadField, "name", "y", lambda: Formatter("{x}{y}{z}", defaults={"z": 1}).formatted(record))

    def test_formats_and_styles(self):
        for thing in [thing for thing in objects() if thing != "{"] + ["", "[", "{{", "$$"]:
            self.refused(BadStyle, "style", thing, lambda: Formatter("{", thing), lambda: Formatter(style=thing))
        for fmt, style in (("{", "{"), ("plain", "{"), ("", "{"), ("{a:0}", "{"), ("$", "$"), ("$1", "$"), ("${a", "$"), ("plain", "$"), ("{a!x}", "{")):
            self.refused(BadFormat, "fmt", fmt, lambda: Formatter(fmt, style), lambda: Formatter(fmt, style, True, {"a": 1}))

    def test_modes_and_whens(self):
        yard, there = self.yard, self.yard.files()
        for thing in [thing for thing in objects() if thing != "a"] + ["", "A", "aw", "x"]:
            self.refused(
                BadMode, "mode", thing, lambda: FileHandler(yard, "new", thing), lambda: FileHandler(yard, "new", thing, True),
                lambda: RotatingFileHandler(yard, "new", thing), lambda: RotatingFileHandler(yard, "new", thing, 5, 2),
            )
        for thing in objects() + ["", "W", "W7", "DAY", "S ", "w-1"]:
            self.refused(BadWhen, "when", thing, lambda: TimedRotatingFileHandler(yard, "new", thing))
        self.assertEqual(yard.files(), there)

    def test_refused_handlers_are_not_of_the_yard(self):
        for make in (lambda: FileHandler(self.yard, "f2", "x"), lambda: TimedRotatingFileHandler(self.yard, "f2", "x")):
            self.assertRaises(YardError, make)
        before = self.yard.files()
        self.yard.shutdown()
        self.assertEqual(self.yard.files(), before)

    def test_settings(self):
        yard, settings = self.yard, {"version": 1, "handlers": {"f": {"class": "file", "filename": "new", "mode": "x"}}}
        good = {"version": 1, "incremental": True}
        self.told(BadSettings, "path", ("handlers", "f", "mode"), lambda: configure(yard, settings), lambda: laid(yard, settings))
        clean = Yard()
        self.told(
            BadSettings, "path", ("handlers", "f", "mode"), lambda: change(clean, settings), lambda: swapped(clean, settings, good),
            lambda: swapped(clean, good, settings),
        )
        self.told(BadSettings, "path", (), lambda: configure(yard, None), lambda: laid(yard, 5), lambda: change(clean, []), lambda: swapped(clean, "", {}))

    def test_yards_that_are_not_judged(self):
        yard, other = self.yard, Yard()
        self.told(
            NotJudged, "path", ("", "handlers", 2), lambda: outcome(yard, ("a", 5, "")), lambda: mentions([other, yard]), lambda: bounds([yard]),
            lambda: table(yard, [], []), lambda: difference(yard, other), lambda: alike(other, yard), lambda: change(yard, {}),
            lambda: swapped(yard, {}, {}), lambda: idle(yard), lambda: overlay(yard, other), lambda: overlay(other, yard),
        )
        yard.root.addFilter(Asked())
        self.told(NotJudged, "path", ("", "filters", 0), lambda: outcome(yard, ("a", 5, "")))

    def test_cuts_and_deeds(self):
        yard = Yard()
        for thing in objects():
            self.refused(BadCuts, None, None, lambda: table(yard, thing, [1]), lambda: table(yard, [""], thing))
            self.refused(BadDeed, "deed", thing, lambda: done(self.yard, thing), lambda: done(yard, thing))

    def test_what_cannot_be_formatted_is_no_error(self):
        yard, queue = Yard(), Queue()
        for handler in (StreamHandler(yard), FileHandler(yard, "f"), RotatingFileHandler(yard, "r", maxBytes=1), QueueHandler(yard, queue)):
            handler.setFormatter(Formatter("{x}{message}"))
            self.assertIs(handler.handle(yard.make_record("a", 30, "{", (1,), {"x": 1})), True)
            self.assertIs(handler.handle(yard.make_record("b", 30, "{", (1,))), True)
        self.assertEqual(yard.failures(), [("a", "message"), ("b", "field")] * 4)
        self.assertEqual((yard.streams(), yard.files(), len(queue)), ([], {"f": "", "r": ""}, 0))
