"""[42]: what settings change."""

import copy
import unittest

from recordyard.changes import change, laid, swapped
from recordyard.copies import copied
from recordyard.differences import difference
from recordyard.errors import BadSettings, NotJudged
from recordyard.handlers import StreamHandler
from recordyard.judging import outcome
from recordyard.settings import configure
from recordyard.yards import Yard
from tests.helpers import Asked, all_loggers, one_of_each, standing
from tests.test_judging import lines


def step(**parts):
    return {"version": 1, "incremental": True} | parts


def whole(**parts):
    return {"version": 1} | parts


class Changes(unittest.TestCase):
    def setUp(self):
        self.yard = Yard()
        handler = lines(self.yard, "out", "{name}: {message}")
        handler.setName("h")
        self.yard.root.addHandler(handler)
        self.yard.root.setLevel(20)
        self.yard.getLogger("a").setLevel(30)

    def stays(self, call, *settings):
        """What a call returns, which leaves the yard and the settings as they are."""
        before, kept = standing(self.yard), copy.deepcopy(settings)
        told = call(self.yard, *settings)
        self.assertEqual((standing(self.yard), settings), (before, kept))
        return told

    def refused(self, call, *settings, error=BadSettings, path=()):
        before, kept = standing(self.yard), copy.deepcopy(settings)
        for _ in range(2):
            with self.assertRaises(error) as caught:
                call(self.yard, *settings)
            self.assertEqual(caught.exception.path, path)
        self.assertEqual((standing(self.yard), settings), (before, kept))


class Laid(Changes):
    def test_incremental_settings(self):
        other = self.stays(laid, step(root={"level": 5}, handlers={"h": {"level": 6}}, loggers={"b": {"propagate": False}}))
        self.assertEqual((other.root.level, other.getHandlerByName("h").level, other.loggers()), (5, 6, ["a", "b"]))
        self.assertEqual((self.yard.root.level, self.yard.loggers()), (20, ["a"]))

    def test_whole_settings(self):
        self.yard.root.error("m")
        settings = whole(handlers={"f": {"class": "file", "filename": "log"}}, root={"handlers": ["f"]})
        other = self.stays(laid, settings)
        other.root.error("n")
        self.assertEqual((other.files(), other.text("out"), other.getHandlerNames()), ({"log": "n\n"}, "root: m\n", ["f"]))
        self.assertEqual((self.yard.files(), self.yard.getHandlerNames()), ({}, ["h"]))
        self.assertIs(all_loggers(other)[1].disabled, True)

    def test_the_same_as_configure_at_a_copy(self):
        for settings in (step(), step(root={"level": "INFO"}), whole(), whole(loggers={"a": {}, "b.c": {"level": 3}}), whole(root={})):
            other = copied(self.yard)
            configure(other, settings)
            self.assertIsNone(difference(other, self.stays(laid, settings)))
            self.assertEqual(self.stays(laid, settings).loggers(), other.loggers())

    def test_by_name(self):
        self.assertEqual(laid(settings=step(root={"level": 1}), yard=self.yard).root.level, 1)

    def test_later_changes(self):
        settings = whole(formatters={"f": {"format": "{x}", "defaults": {"x": [1]}}}, handlers={"h": {"class": "stream", "formatter": "f"}}, root={"handlers": ["h"]})
        other = laid(self.yard, settings)
        settings["formatters"]["f"]["defaults"]["x"].append(2)
        other.root.error("m")
        self.assertEqual(other.text("stderr"), "[1]\n")

    def test_yards_that_are_not_judged(self):
        for handler in one_of_each(self.yard):
            self.yard.root.addHandler(handler)
        self.yard.root.addFilter(Asked())
        self.assertEqual(self.stays(laid, step(root={"level": 3})).root.level, 3)

    def test_refused_settings(self):
        self.refused(laid, None)
        self.refused(laid, {}, path=("version",))
        self.refused(laid, whole(root={"handlers": ["h"]}), path=("root", "handlers", 0))
        self.refused(laid, step(handlers={"i": {}}), path=("handlers", "i"))


class Change(Changes):
    def check(self, settings, record):
        self.assertEqual(self.stays(change, settings), record)
        self.assertEqual(change(settings=settings, yard=self.yard), record)
        if record is not None:
            self.assertNotEqual(outcome(self.yard, record), outcome(laid(self.yard, settings), record))

    def test_incremental_settings(self):
        self.check(step(root={"level": 5}), ("", 5, ""))
        self.check(step(handlers={"h": {"level": 21}}), ("", 20, ""))
        self.check(step(loggers={"a": {"level": 0}}), ("a", 20, ""))
        self.check(step(loggers={"b": {"propagate": False}}), ("b", 20, ""))
        self.check(step(loggers={"a.b": {"level": 25, "propagate": True}}), ("a.b", 25, ""))

    def test_whole_settings(self):
        self.check(whole(), ("a", 30, ""))
        self.check(whole(root={}), ("", 20, ""))
        again = {"handlers": {"h": {"class": "stream", "stream": "out", "formatter": "f"}}, "formatters": {"f": {"format": "{name}: {message}"}}}
        self.check(whole(root={"handlers": ["h"]}, **again), ("a", 30, ""))
        self.check(whole(root={"handlers": ["h"]}, loggers={"a": {"level": 31}}, **again), ("a", 30, ""))
        self.check(whole(root={"handlers": ["h"], "level": 19}, disable_existing_loggers=False, **again), ("", 19, ""))

    def test_settings_that_change_nothing(self):
        self.check(step(), None)
        self.check(step(root={"level": 20}, loggers={"a": {"propagate": True}, "x.y": {}}, handlers={"h": {"level": 20}}), None)
        self.check(whole(disable_existing_loggers=False), None)
        self.check(whole(loggers={"a": {}}), None)
        # The same lines made in another way.
        self.check(whole(
            formatters={"f": {"format": "$name: $message", "style": "$"}}, handlers={"h": {"class": "stream", "stream": "out", "formatter": "f"}},
            root={"handlers": ["h"]}, loggers={"a": {}},
        ), None)

    def test_refused_settings(self):
        self.refused(change, [])
        self.refused(change, step(root={"level": None}), path=("root", "level"))
        self.refused(change, whole(root={"level": 5}, handlers={"h": {"class": "null", "x": 1}}), path=("handlers", "h", "x"))

    def test_a_yard_that_is_not_judged_goes_ahead_of_refused_settings(self):
        self.yard.getLogger("a").addFilter(Asked())
        for settings in (None, {}, whole(), step(root={"level": None})):
            self.refused(change, settings, error=NotJudged, path=("a", "filters", 0))

    def test_copies_that_are_not_judged_come_behind(self):
        rows = {"f": {"class": "file", "filename": "x"}, "m": {"class": "memory", "capacity": 1}, "s": {"class": "stream", "formatter": "g"}}
        parts = {"handlers": rows, "formatters": {"g": {"format": "{msg}"}}}
        self.refused(change, whole(root={"handlers": ["f"]}, **parts), error=NotJudged, path=("", "handlers", 0))
        self.refused(change, whole(loggers={"n": {"handlers": ["s", "f"]}}, **parts), error=NotJudged, path=("n", "handlers", 0, "formatter"))
        self.refused(change, whole(root={"handlers": ["f"], "x": 1}, **parts), path=("root", "x"))
        # Handlers that hang on no logger do not matter.
        self.check(whole(disable_existing_loggers=False, **parts), None)


class Swapped(Changes):
    def check(self, one, two, record):
        self.assertEqual(self.stays(swapped, one, two), record)
        self.assertEqual(self.stays(swapped, two, one), record)
        self.assertEqual(swapped(two=two, one=one, yard=self.yard), record)
        if record is not None:
            outcomes = [outcome(laid(laid(self.yard, first), second), record) for first, second in ((one, two), (two, one))]
            self.assertNotEqual(outcomes[0], outcomes[1])

    def test_incremental_settings(self):
        self.check(step(root={"level": 5}), step(root={"level": 6}), ("", 5, ""))
        self.check(step(root={"level": 5}), step(loggers={"a": {"level": 6}}), None)
        self.check(step(root={"level": 5}), step(root={"level": 5}), None)
        self.check(step(), step(root={"level": 5}), None)
        self.check(step(loggers={"b": {"propagate": False}}), step(loggers={"b": {"level": 40, "propagate": True}}), ("b", 40, ""))

    def test_whole_settings(self):
        out = whole(handlers={"x": {"class": "stream", "stream": "x"}}, root={"handlers": ["x"]})
        other = whole(handlers={"x": {"class": "stream", "stream": "y"}}, root={"handlers": ["x"]})
        self.check(out, other, ("", 20, ""))
        self.check(out, out, None)
        # What comes second disables what only the first one names.
        self.check(whole(loggers={"p": {}}), whole(loggers={"q": {}}), ("p", 20, ""))
        self.check(whole(loggers={"p": {}}), whole(loggers={"q": {}}, disable_existing_loggers=False), ("a", 30, ""))
        self.check(whole(loggers={"p": {"level": 5}}), whole(loggers={"p.q": {"level": 6}}), ("p", 5, ""))

    def test_incremental_and_whole_ones(self):
        # Names of handlers lead to those of the settings that came last.
        settings = whole(handlers={"h": {"class": "stream", "stream": "n"}}, root={"handlers": ["h"]})
        self.check(settings, step(handlers={"h": {"level": 40}}), ("", 20, ""))

    def test_the_first_one_that_is_refused(self):
        bad, worse = step(root={"level": None}), step(root={"level": 1}, handlers={"i": {}})
        self.refused(swapped, bad, worse, path=("root", "level"))
        self.refused(swapped, worse, bad, path=("handlers", "i"))
        good = step(root={"level": 1})
        self.refused(swapped, good, bad, path=("root", "level"))
        self.refused(swapped, bad, good, path=("root", "level"))
        taking = whole(handlers={"n": {"class": "null"}})
        # two is right at the yard, but not behind one; one is right only behind two.
        self.refused(swapped, taking, step(handlers={"h": {}}), path=("handlers", "h"))
        self.refused(swapped, step(handlers={"n": {"level": 5}}), taking, path=("handlers", "n"))
        self.refused(swapped, taking, step(handlers={"n": {"level": 5}}), path=("handlers", "n"))
        self.refused(swapped, step(handlers={"h": {}}), taking, path=("handlers", "h"))

    def test_yards_that_are_not_judged(self):
        good, bad = step(root={"level": 1}), step(root={"level": None})
        files = whole(handlers={"f": {"class": "file", "filename": "x"}}, root={"handlers": ["f"]})
        empty = whole(root={})
        self.refused(swapped, files, bad, path=("root", "level"))
        self.refused(swapped, files, good, error=NotJudged, path=("", "handlers", 0))
        # Only what is compared is judged: with empty behind it, nothing is left of the file.
        self.refused(swapped, files, empty, error=NotJudged, path=("", "handlers", 0))
        self.refused(swapped, empty, files, error=NotJudged, path=("", "handlers", 0))
        quiet = whole(handlers={"n": {"class": "null"}}, loggers={"": {"handlers": ["n"]}})
        other = whole(handlers={"f": {"class": "file", "filename": "x"}}, loggers={"": {"handlers": ["f"]}}, root={"handlers": []})
        self.check(quiet, other, ("", 30, ""))
        self.yard.getLogger("a").addFilter(Asked())
        for one, two in ((good, good), (bad, bad), (files, None)):
            self.refused(swapped, one, two, error=NotJudged, path=("a", "filters", 0))

    def test_the_path_is_that_of_the_copy_with_one_first(self):
        rows = {"handlers": {"f": {"class": "file", "filename": "x"}}}
        one = whole(loggers={"p": {"handlers": ["f"]}}, disable_existing_loggers=False, **rows)
        two = whole(loggers={"q": {"handlers": ["f"]}}, disable_existing_loggers=False, **rows)
        self.refused(swapped, one, two, error=NotJudged, path=("p", "handlers", 0))
        three = whole(loggers={"p": {}}, disable_existing_loggers=False)
        self.refused(swapped, three, one, error=NotJudged, path=("p", "handlers", 0))
        handler = StreamHandler(self.yard)
        self.yard.root.addHandler(handler)
        self.refused(swapped, one, three, error=NotJudged, path=("p", "handlers", 0))
