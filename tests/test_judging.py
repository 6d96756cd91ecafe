"""[35] to [37]: which yards are judged, and outcomes of records."""

import unittest

from recordyard.changes import change, laid, swapped
from recordyard.copies import copied
from recordyard.deeds import deeds, done, idle
from recordyard.differences import alike, difference
from recordyard.errors import NotJudged
from recordyard.filters import Filter
from recordyard.formatters import Formatter
from recordyard.handlers import NullHandler, StreamHandler
from recordyard.judging import offence, outcome
from recordyard.overlays import overlay
from recordyard.tables import bounds, mentions, table
from recordyard.yards import Yard
from tests.helpers import Asked, one_of_each, standing
from tests.small import RECORDS, told, yard_at_random


def lines(yard, stream="out", fmt=None, level=0, terminator="\n", filters=()):
    """A handler of a stream, with what is told."""
    handler = StreamHandler(yard, stream)
    handler.setLevel(level)
    handler.setTerminator(terminator)
    if fmt is not None:
        handler.setFormatter(Formatter(fmt, validate=False))
    for name in filters:
        handler.addFilter(Filter(name))
    return handler


class Offences(unittest.TestCase):
    def setUp(self):
        self.yard = Yard()

    def check(self, path):
        before = standing(self.yard)
        for _ in range(2):
            self.assertEqual(offence(self.yard), path)
        self.assertEqual(offence(yard=self.yard), path)
        self.assertTrue(path is None or type(offence(self.yard)) is tuple)
        judged = copied(Yard())
        if path is not None:
            for call in (
                lambda: outcome(self.yard, ("a", 20, "")), lambda: mentions([self.yard]), lambda: bounds([judged, self.yard]),
                lambda: table(self.yard, None, None), lambda: difference(self.yard, judged), lambda: difference(judged, self.yard),
                lambda: alike(judged, self.yard), lambda: change(self.yard, None), lambda: swapped(self.yard, None, 5),
                lambda: idle(self.yard), lambda: overlay(judged, self.yard), lambda: overlay(self.yard, judged),
            ):
                with self.assertRaises(NotJudged) as caught:
                    call()
                self.assertEqual(caught.exception.path, path)
        # These take yards that are not judged, too.
        self.assertIs(type(laid(self.yard, {"version": 1})), Yard)
        for deed in deeds(self.yard):
            self.assertIs(type(done(self.yard, deed)), Yard)
        self.assertEqual(standing(self.yard), before)

    def test_judged_yards(self):
        self.check(None)
        self.yard.getLogger("a").addFilter(Filter())
        for name in ("", "a", "B.c_1"):
            self.yard.getLogger(name).addHandler(lines(self.yard, filters=["x", ""]))
            self.yard.getLogger(name).addHandler(NullHandler(self.yard))
        self.check(None)
        self.yard.advance(5)
        self.yard.disable(20)
        self.yard.put_file("f", "x")
        self.check(None)

    def test_handlers_of_other_classes(self):
        logger = self.yard.getLogger("b")
        logger.addHandler(NullHandler(self.yard))
        for handler in one_of_each(self.yard):
            logger.addHandler(handler)
            self.check(None if type(handler) in (StreamHandler, NullHandler) else ("b", "handlers", 1))
            logger.removeHandler(handler)

    def test_functions_among_filters(self):
        for one in (Asked(), lambda record: True, str):
            self.yard = Yard()
            handler, other = lines(self.yard), NullHandler(self.yard)
            self.yard.root.addHandler(other)
            self.yard.getLogger("a").addHandler(handler)
            for filter in (Filter("a"), Filter("b"), one):
                handler.addFilter(filter)
            self.check(("a", "handlers", 0, "filters", 2))
            other.addFilter(one)
            self.check(("", "handlers", 0, "filters", 0))
            self.yard.root.addFilter(Filter())
            self.yard.root.addFilter(one)
            self.check(("", "filters", 1))

    def test_formatters(self):
        for formatter, plain in (
            (None, True), (Formatter(), True), (Formatter("{name}{levelno}{levelname}{message}"), True), (Formatter("{{}}", validate=False), True),
            (Formatter("$name ${message}", "$"), True), (Formatter("", validate=False), True), (Formatter("{name}", defaults={}), True),
            (Formatter("{name}", defaults={"x": 1}), False), (Formatter("{name!s}"), False), (Formatter("{message!r}"), False),
            (Formatter("{name:5}"), False), (Formatter("{levelno:<1}"), False), (Formatter("{message:<}"), False), (Formatter("{levelname:*^}"), False),
            (Formatter("{msg}"), False), (Formatter("{asctime}"), False), (Formatter("{x}", defaults={"x": 1}), False), (Formatter("{created}"), False),
            (Formatter("{args}"), False), (Formatter("{name} {msecs}"), False), (Formatter("$x", "$"), False), (Formatter("{Name}"), False),
            (Formatter("plain", validate=False, defaults={"a": None}), False),
        ):
            for make in (StreamHandler, NullHandler):
                self.yard = Yard()
                handler = make(self.yard)
                handler.setFormatter(formatter)
                self.yard.getLogger("x").addHandler(handler)
                self.check(None if plain else ("x", "handlers", 0, "formatter"))

    def test_the_first_one(self):
        yard, one, bad = self.yard, Asked(), Formatter("{msg}")
        steps = []

        def put(path, owner, formatter=None, filters=()):
            # Filled up from the end: each one is ahead of those that are there.
            steps.append(path)
            if formatter is not None:
                owner.setFormatter(formatter)
            for filter in filters:
                owner.addFilter(filter)
            self.check(path)

        handlers = {name: [lines(yard), NullHandler(yard)] for name in ("", "B", "a", "a.b")}
        for name, pair in handlers.items():
            for handler in pair:
                handler.addFilter(Filter())
                yard.getLogger(name).addHandler(handler)
        for name in ("a.b", "a", "B", ""):
            for place in (1, 0):
                put((name, "handlers", place, "formatter"), handlers[name][place], formatter=bad)
                put((name, "handlers", place, "filters", 1), handlers[name][place], filters=[one])
            put((name, "filters", 0), yard.getLogger(name), filters=[one])
        self.assertEqual(len(steps), 20)

    def test_a_handler_itself_goes_ahead_of_what_it_has(self):
        handler = one_of_each(self.yard)[2]
        handler.addFilter(Asked())
        handler.setFormatter(Formatter("{msg}"))
        self.yard.getLogger("a").addHandler(handler)
        self.yard.root.addHandler(NullHandler(self.yard))
        self.check(("a", "handlers", 0))
        self.yard.getLogger("a").addFilter(Asked())
        self.check(("a", "filters", 0))

    def test_a_handler_that_hangs_on_several_loggers(self):
        handler = lines(self.yard)
        for name in ("b", "a"):
            self.yard.getLogger(name).addHandler(handler)
        handler.addFilter(Asked())
        self.check(("a", "handlers", 0, "filters", 0))

    def test_handlers_that_hang_on_no_logger(self):
        for handler in one_of_each(self.yard):
            handler.setName("x")
            handler.addFilter(Asked())
        self.check(None)

    def test_the_first_yard_of_several(self):
        other = Yard()
        other.getLogger("o").addFilter(Asked())
        self.yard.getLogger("a").addFilter(Asked())
        for call in (difference, alike, overlay, lambda one, two: mentions([one, two]), lambda one, two: bounds((one, two))):
            for one, two, path in ((self.yard, other, ("a", "filters", 0)), (other, self.yard, ("o", "filters", 0))):
                with self.assertRaises(NotJudged) as caught:
                    call(one, two)
                self.assertEqual(caught.exception.path, path)


class Outcomes(unittest.TestCase):
    def setUp(self):
        self.yard = Yard()

    def check(self, record, *pairs):
        before = standing(self.yard)
        for one in (record, list(record)):
            self.assertEqual(outcome(self.yard, one), list(pairs))
        self.assertEqual(outcome(yard=self.yard, record=record), list(pairs))
        self.assertTrue(all(type(pair) is tuple for pair in outcome(self.yard, record)))
        self.assertEqual(standing(self.yard), before)
        self.assertEqual(told(self.yard, record), list(pairs))

    def test_names(self):
        self.yard.root.addHandler(lines(self.yard, fmt="{name}"))
        self.check(("", 30, "m"), ("out", "root\n"))
        self.check(("a.b", 30, "m"), ("out", "a.b\n"))
        self.yard.getLogger("a").addHandler(lines(self.yard, "a"))
        self.yard.getLogger("a.b").setPropagate(False)
        self.yard.getLogger("a.b").addHandler(lines(self.yard, "b"))
        self.check(("a", 30, "m"), ("a", "m\n"), ("out", "a\n"))
        self.check(("a.c", 30, "m"), ("a", "m\n"), ("out", "a.c\n"))
        self.check(("a.b", 30, "m"), ("b", "m\n"))
        self.check(("a.b.c.d", 30, "m"), ("b", "m\n"))
        self.check(("ab", 30, "m"), ("out", "ab\n"))

    def test_levels(self):
        self.yard.root.addHandler(lines(self.yard, fmt="{levelno} {levelname}", level=35))
        self.yard.add_level_name(37, "own")
        self.yard.getLogger("a").setLevel(37)
        for level, text in ((34, None), (35, "35 Level 35\n"), (36, "36 Level 36\n"), (37, "37 own\n"), (10 ** 18, f"{10 ** 18} Level {10 ** 18}\n")):
            self.check(("", level, ""), *[("out", text)] * (text is not None))
            self.check(("a.b", level, ""), *[("out", text)] * (level >= 37))
        self.check(("", 1, ""))
        self.yard.root.setLevel(0)
        self.yard.root.handlers[0].setLevel(-3)
        self.check(("", 1, ""), ("out", "1 Level 1\n"))

    def test_the_bar(self):
        self.yard.root.addHandler(lines(self.yard))
        self.yard.root.setLevel(1)
        self.yard.disable(20)
        self.check(("a", 20, "m"))
        self.check(("a", 21, "m"), ("out", "m\n"))
        self.yard.disable(-5)
        self.check(("a", 1, "m"), ("out", "m\n"))

    def test_disabled_loggers(self):
        self.yard.root.addHandler(lines(self.yard))
        self.yard.getLogger("a").setDisabled(True)
        self.check(("a", 50, "m"))
        self.check(("a.b", 50, "m"), ("out", "m\n"))
        self.yard.root.setDisabled(True)
        self.check(("", 50, "m"))
        self.check(("b", 50, "m"), ("out", "m\n"))

    def test_filters(self):
        self.yard.root.addHandler(lines(self.yard, filters=["a"]))
        self.yard.getLogger("a").addFilter(Filter("b"))
        self.yard.getLogger("a.b").addFilter(Filter("a.b"))
        self.yard.root.addHandler(lines(self.yard, "root", filters=["root"]))
        self.check(("a", 30, "m"))
        self.check(("a.b", 30, "m"), ("out", "m\n"))
        # Filters of a logger do not matter for those below it.
        self.check(("a.c", 30, "m"), ("out", "m\n"))
        self.check(("ab", 30, "m"))
        self.check(("", 30, "m"), ("root", "m\n"))
        self.yard.root.addFilter(Filter("a"))
        self.check(("", 30, "m"))

    def test_the_last_resort(self):
        self.check(("a", 29, "m"))
        self.check(("a", 30, "m"), ("stderr", "m\n"))
        self.check(("", 30, ""), ("stderr", "\n"))
        self.yard.getLogger("a").addHandler(NullHandler(self.yard))
        self.check(("a.b", 50, "m"))
        self.check(("b", 50, "m"), ("stderr", "m\n"))
        self.yard.getLogger("a.c").setPropagate(False)
        self.check(("a.c.d", 50, "m"), ("stderr", "m\n"))
        # One that is reached counts, whatever its level and its filters are.
        self.yard.getLogger("c").addHandler(lines(self.yard, level=99, filters=["d"]))
        self.check(("c", 50, "m"))

    def test_several_handlers_at_one_stream(self):
        for name, text in (("", "1"), ("", "2"), ("a", "3")):
            self.yard.getLogger(name).addHandler(lines(self.yard, "out", "{message}" + text, terminator=" "))
        self.yard.root.addHandler(lines(self.yard, "also", "x"))
        self.check(("a", 30, "m"), ("also", "x\n"), ("out", "m3 m1 m2 "))
        shared = lines(self.yard, "twice", terminator="")
        for name in ("", "a.b"):
            self.yard.getLogger(name).addHandler(shared)
        self.check(("a.b", 30, "m"), ("also", "x\n"), ("out", "m3 m1 m2 "), ("twice", "mm"))

    def test_empty_texts_are_left_out(self):
        self.yard.root.addHandler(lines(self.yard, terminator=""))
        self.check(("a", 30, ""))
        self.check(("a", 30, "m"), ("out", "m"))
        self.yard.root.addHandler(lines(self.yard, "also", "{levelname}", terminator=""))
        self.yard.add_level_name(30, "")
        self.check(("a", 30, ""))
        self.check(("a", 31, ""), ("also", "Level 31"))
        self.yard.root.addHandler(lines(self.yard, "also", "", terminator=""))
        self.check(("a", 30, ""))

    def test_streams_are_ascending_and_may_have_an_empty_name(self):
        for stream in ("b", "", "B", "a"):
            self.yard.root.addHandler(lines(self.yard, stream))
        self.yard.root.addHandler(NullHandler(self.yard))
        self.check(("a", 30, "m"), ("", "m\n"), ("B", "m\n"), ("a", "m\n"), ("b", "m\n"))

    def test_what_was_written_before_does_not_matter(self):
        self.yard.root.addHandler(lines(self.yard))
        self.yard.root.error("early")
        self.check(("a", 30, "m"), ("out", "m\n"))

    def test_what_is_returned_is_new(self):
        self.yard.root.addHandler(lines(self.yard))
        outcome(self.yard, ("a", 30, "m")).clear()
        self.check(("a", 30, "m"), ("out", "m\n"))

    def test_small_yards(self):
        for seed in range(60):
            self.yard = yard_at_random(seed)
            for record in RECORDS[seed % 19::19]:
                self.assertEqual(outcome(self.yard, record), told(self.yard, record), (seed, record))
