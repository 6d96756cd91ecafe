"""[21], [22], [23]: what holds for all handlers; StreamHandler and NullHandler."""

import unittest

from recordyard.errors import BadField, BadMessage
from recordyard.files import FileHandler
from recordyard.filters import Filter
from recordyard.formatters import Formatter
from recordyard.handlers import NullHandler, StreamHandler
from recordyard.rotating import RotatingFileHandler
from recordyard.timed import TimedRotatingFileHandler
from recordyard.yards import Yard
from tests.helpers import Asked, one_of_each


class WithYard(unittest.TestCase):
    def setUp(self):
        self.yard = Yard()

    def record(self, msg="m", args=(), name="a", level=20, extra=None):
        return self.yard.make_record(name, level, msg, args, extra)

    def writers(self):
        """New handlers that write what they emit at once, each with a function that tells what it wrote."""
        handlers = [
            StreamHandler(self.yard, "out"), FileHandler(self.yard, "log1"), FileHandler(self.yard, "log2", "w", True),
            RotatingFileHandler(self.yard, "log3", "w"), TimedRotatingFileHandler(self.yard, "log4"),
        ]
        out = [(handlers[0], lambda: self.yard.text("out"))]
        for handler in handlers[1:]:
            out.append((handler, lambda name=handler.filename: self.yard.files().get(name, "")))
        return out


class Attributes(WithYard):
    def test_at_first(self):
        for handler in one_of_each(self.yard):
            told = (handler.yard, handler.level, handler.formatter, handler.filters, handler.name, handler.terminator)
            self.assertEqual(told, (self.yard, 0, None, [], None, "\n"))
            self.assertIs(type(handler.level), int)

    def test_setting_them(self):
        self.yard.add_level_name(25, "NOTE")
        formatter = Formatter()
        for handler in one_of_each(self.yard):
            for level, number in ((5, 5), ("NOTE", 25), (-3, -3), ("NOTSET", 0)):
                self.assertIsNone(handler.setLevel(level))
                self.assertEqual(handler.level, number)
            self.assertIsNone(handler.setFormatter(formatter))
            self.assertIs(handler.formatter, formatter)
            handler.setFormatter(formatter=None)
            self.assertIsNone(handler.formatter)
            self.assertIsNone(handler.setTerminator(""))
            self.assertEqual(handler.terminator, "")
            handler.setTerminator(text="--\n")
            self.assertEqual(handler.terminator, "--\n")
            handler.setLevel(level="INFO")
            self.assertIsNone(handler.setName(name="n"))
            self.assertEqual((handler.level, handler.name), (20, "n"))
            self.assertIsNone(handler.flush())

    def test_handlers_are_equal_only_to_themselves(self):
        handlers = one_of_each(self.yard) + one_of_each(self.yard)
        for one in handlers:
            self.assertEqual([one == other for other in handlers].count(True), 1)

    def test_handlers_share_nothing(self):
        for one, other in zip(one_of_each(self.yard), one_of_each(self.yard)):
            one.addFilter(Filter("x"))
            one.setLevel(5)
            one.setTerminator("")
            self.assertEqual((other.filters, other.level, other.terminator), ([], 0, "\n"))

    def test_making_one_writes_no_text(self):
        one_of_each(self.yard)
        self.assertEqual((self.yard.streams(), set(self.yard.files().values())), ([], {""}))
        self.assertEqual((self.yard.getHandlerNames(), self.yard.failures()), ([], []))


class Filters(WithYard):
    def test_putting_and_taking(self):
        for handler in one_of_each(self.yard):
            one, two, three = Filter("a"), Asked(), Filter("a")
            for each in (one, two, one, three, two):
                self.assertIsNone(handler.addFilter(each))
            self.assertEqual(handler.filters, [one, two, three])
            self.assertIsNone(handler.removeFilter(one))
            handler.removeFilter(one=one)
            handler.removeFilter(Filter("a"))
            self.assertEqual(handler.filters, [two, three])
            handler.addFilter(one=one)
            self.assertEqual(handler.filters, [two, three, one])

    def test_filtered(self):
        record, other = self.record(), self.record("other", name="b")
        for handler in one_of_each(self.yard):
            self.assertIs(handler.filtered(record=record), record)
            asked = [Asked(other), Asked(1), Asked(0), Asked()]
            for one in asked[:2]:
                handler.addFilter(one)
            self.assertIs(handler.filtered(record), other)
            handler.addFilter(asked[2])
            handler.addFilter(asked[3])
            self.assertIsNone(handler.filtered(record))
            self.assertEqual([one.records for one in asked], [[record] * 2, [other] * 2, [other], []])

    def test_handle_tells_whether_something_came_through(self):
        for handler in one_of_each(self.yard):
            handler.addFilter(Filter("a"))
            told = [handler.handle(record=self.record(name=name)) for name in ("a", "b", "a.b", "ab")]
            self.assertEqual(told, [True, False, True, False])
            self.assertEqual({type(flag) for flag in told}, {bool})

    def test_each_filter_is_asked_once_for_each_record(self):
        for handler in one_of_each(self.yard):
            asked = [Asked(), Asked("yes"), Asked(None), Asked()]
            for one in asked:
                handler.addFilter(one)
            self.assertIs(handler.handle(self.record()), False)
            self.assertEqual([len(one.records) for one in asked], [1, 1, 1, 0])
            handler.removeFilter(asked[2])
            self.assertIs(handler.handle(self.record("{", (1,))), True)
            self.assertEqual([len(one.records) for one in asked], [2, 2, 1, 1])

    def test_what_does_not_come_through_is_not_written(self):
        for handler, told in self.writers():
            handler.addFilter(Filter("b"))
            self.assertIs(handler.handle(self.record()), False)
            self.assertIs(handler.handle(self.record("{", (1,))), False)
            self.assertEqual(told(), "")
        self.assertEqual(self.yard.failures(), [])

    def test_the_record_that_took_the_place_is_emitted(self):
        other = self.record("{}", name="other")
        for handler, told in self.writers():
            handler.addFilter(Asked(other))
            handler.setFormatter(Formatter("{name} {message}"))
            self.assertIs(handler.handle(self.record()), True)
            self.assertEqual(told(), "other {}\n")


class Handling(WithYard):
    def test_the_level_is_not_looked_at(self):
        for handler, told in self.writers():
            handler.setLevel(50)
            self.assertIs(handler.handle(self.record(level=1)), True)
            self.assertEqual(told(), "m\n")

    def test_formatters_and_terminators_changed_on_the_way(self):
        for handler, told in self.writers():
            for formatter, terminator in (
                (None, "\n"), (Formatter("{name}: {message}"), "\n"), (Formatter("$levelname", "$"), "|"), (Formatter("", validate=False), ""),
                (Formatter("", validate=False), "-"), (None, ""), (None, "\n\n"),
            ):
                handler.setFormatter(formatter)
                handler.setTerminator(terminator)
                self.assertIs(handler.handle(self.record("m{}", (1,))), True)
            self.assertEqual(told(), "m1\na: m1\nINFO|-m1m1\n\n")

    def test_formatted(self):
        record = self.record("{}-{}", (1, 2), extra={"k": "x"})
        for handler in one_of_each(self.yard):
            handler.setTerminator("!")
            self.assertEqual(handler.formatted(record), "1-2")
            handler.setFormatter(Formatter("{k:>3}"))
            self.assertEqual(handler.formatted(record=record), "  x")
            with self.assertRaises(BadField) as caught:
                handler.formatted(self.record())
            self.assertEqual(caught.exception.name, "k")
            handler.setFormatter(None)
            with self.assertRaises(BadMessage) as caught:
                handler.formatted(self.record("{", (1,)))
            self.assertEqual(caught.exception.msg, "{")
            handler.setFormatter(Formatter())
            with self.assertRaises(BadMessage):
                handler.formatted(self.record("{", (1,)))
        self.assertEqual(self.yard.failures(), [])

    def test_asking_for_the_text_writes_nothing(self):
        for handler, told in self.writers():
            handler.formatted(self.record())
            self.assertEqual(told(), "")


class Failures(WithYard):
    def test_one_for_each_record_that_cannot_be_formatted_and_nothing_is_written(self):
        for handler, told in self.writers():
            before = self.yard.failures()
            self.assertIs(handler.handle(self.record("{", (1,), "x.y")), True)
            handler.setFormatter(Formatter("{name} {message} {k}"))
            self.assertIs(handler.handle(self.record("m", name="z")), True)
            self.assertIs(handler.handle(self.record("{}{}", (1,), "")), True)
            handler.handle(self.record("n", extra={"k": 1}))
            self.assertEqual(told(), "a n 1\n")
            self.assertEqual(self.yard.failures(), before + [("x.y", "message"), ("z", "field"), ("", "message")])

    def test_the_first_field_that_fails_tells_the_word(self):
        handler = StreamHandler(self.yard, "out")
        for fmt in ("{k} {message}", "{message} {k}"):
            handler.setFormatter(Formatter(fmt))
            handler.handle(self.record("{", (1,)))
        self.assertEqual(self.yard.failures(), [("a", "field"), ("a", "message")])

    def test_the_name_is_that_of_the_record_that_took_the_place(self):
        handler = StreamHandler(self.yard, "out")
        handler.addFilter(Asked(self.record("{", (1,), "other")))
        handler.handle(self.record())
        self.assertEqual(self.yard.failures(), [("other", "message")])

    def test_the_list_is_a_new_one_of_tuples(self):
        self.assertEqual(self.yard.failures(), [])
        StreamHandler(self.yard).handle(self.record("{", (1,)))
        self.yard.failures().clear()
        self.assertEqual([type(pair) for pair in self.yard.failures()], [tuple])

    def test_a_format_that_does_not_ask_for_the_message_has_none(self):
        handler = StreamHandler(self.yard, "out")
        handler.setFormatter(Formatter("{name}"))
        handler.handle(self.record("{", (1,)))
        self.assertEqual((self.yard.text("out"), self.yard.failures()), ("a\n", []))

    def test_each_of_several_handlers_keeps_its_own(self):
        for level in (0, 0, 41):
            handler = StreamHandler(self.yard, "out")
            handler.setLevel(level)
            self.yard.root.addHandler(handler)
        self.yard.root.error("{", (1,))
        self.assertEqual(self.yard.failures(), [("root", "message")] * 2)

    def test_one_that_fails_does_not_stop_the_next_one(self):
        first, second = StreamHandler(self.yard, "out"), StreamHandler(self.yard, "out")
        first.setFormatter(Formatter("{k}"))
        self.yard.root.addHandler(first)
        self.yard.root.addHandler(second)
        self.yard.root.error("m")
        self.assertEqual((self.yard.text("out"), self.yard.failures()), ("m\n", [("root", "field")]))


class Names(WithYard):
    def setUp(self):
        WithYard.setUp(self)
        self.one, self.two = StreamHandler(self.yard), NullHandler(self.yard)

    def leads(self, **names):
        self.assertEqual(self.yard.getHandlerNames(), sorted(names))
        for name, handler in names.items():
            self.assertIs(self.yard.getHandlerByName(name), handler)

    def test_at_first_none_leads_anywhere(self):
        self.leads()
        for name in ("x", "", "stderr", None):
            self.assertIsNone(self.yard.getHandlerByName(name))

    def test_each_class(self):
        handlers = one_of_each(self.yard)
        for number, handler in enumerate(handlers):
            handler.setName("h" + str(number))
        self.leads(**{"h" + str(number): handler for number, handler in enumerate(handlers)})
        for number, handler in enumerate(handlers):
            handler.close()
            self.assertEqual(handler.name, "h" + str(number))
        self.leads()
        for handler in handlers:
            handler.setName(None)
            self.assertIsNone(handler.name)

    def test_names_stand_ascending(self):
        for name in ("b", "a", "B", "_", "a b", "a"):
            NullHandler(self.yard).setName(name)
        self.assertEqual(self.yard.getHandlerNames(), ["B", "_", "a", "a b", "b"])
        self.yard.getHandlerNames().clear()
        self.assertEqual(len(self.yard.getHandlerNames()), 5)

    def test_another_name_or_none(self):
        self.one.setName("x")
        self.leads(x=self.one)
        self.one.setName("y")
        self.assertEqual(self.one.name, "y")
        self.leads(y=self.one)
        self.one.setName(None)
        self.assertIsNone(self.one.name)
        self.leads()
        self.one.setName(None)
        self.leads()

    def test_the_same_name_twice(self):
        self.one.setName("x")
        self.one.setName("x")
        self.leads(x=self.one)

    def test_the_last_one_that_was_given_it(self):
        self.one.setName("x")
        self.two.setName("x")
        self.leads(x=self.two)
        self.assertEqual((self.one.name, self.two.name), ("x", "x"))
        self.one.setName("x")
        self.leads(x=self.one)

    def test_taken_away_though_it_led_to_another_one(self):
        for change in (lambda: self.one.setName("y"), lambda: self.one.setName(None), lambda: self.one.close()):
            self.two.setName("z")
            self.one.setName("x")
            self.two.setName("x")
            change()
            self.assertIsNone(self.yard.getHandlerByName("x"))
            self.assertEqual(self.two.name, "x")
            self.assertNotIn("x", self.yard.getHandlerNames())

    def test_closing(self):
        self.one.setName("x")
        self.two.setName("y")
        self.assertIsNone(self.one.close())
        self.assertEqual(self.one.name, "x")
        self.leads(y=self.two)
        self.one.setName("x")
        self.leads(x=self.one, y=self.two)
        self.one.close()
        self.leads(y=self.two)
        self.two.setName("x")
        self.leads(x=self.two)
        self.one.close()
        self.leads()

    def test_a_handler_without_a_name_closes_no_other(self):
        self.two.setName("x")
        self.one.close()
        self.leads(x=self.two)

    def test_a_closed_handler_is_given_another_name(self):
        self.one.setName("x")
        self.one.close()
        self.two.setName("x")
        self.one.setName("y")
        self.leads(y=self.one)


class StreamHandlers(WithYard):
    def test_the_stream(self):
        self.assertEqual(StreamHandler(self.yard).stream, "stderr")
        self.assertEqual(StreamHandler(self.yard, "out").stream, "out")
        handler = StreamHandler(stream="", yard=self.yard)
        handler.handle(self.record())
        self.assertEqual((handler.stream, self.yard.text(""), self.yard.streams()), ("", "m\n", [""]))

    def test_set_stream(self):
        handler = StreamHandler(self.yard, "one")
        told = []
        for stream in ("one", "two", "two", "three", "one"):
            handler.handle(self.record())
            told.append(handler.setStream(stream))
            self.assertEqual(handler.stream, stream)
        self.assertEqual(told, [None, "one", None, "two", "three"])
        self.assertEqual(handler.setStream(stream=""), "one")
        self.assertEqual(handler.setStream("two"), "")
        self.assertEqual([self.yard.text(stream) for stream in ("one", "two", "three")], ["m\nm\n", "m\nm\n", "m\n"])

    def test_two_on_one_stream(self):
        one, two = StreamHandler(self.yard, "out"), StreamHandler(self.yard, "out")
        for handler, message in ((one, "a"), (two, "b"), (one, "c")):
            handler.handle(self.record(message))
        self.assertEqual(self.yard.text("out"), "a\nb\nc\n")

    def test_closed_ones_are_used_further(self):
        handler = StreamHandler(self.yard, "out")
        for _ in range(2):
            self.assertIsNone(handler.close())
            self.assertIs(handler.handle(self.record()), True)
        self.assertEqual(self.yard.text("out"), "m\nm\n")


class NullHandlers(WithYard):
    def test_nothing_is_written_and_nothing_is_formatted(self):
        handler = NullHandler(yard=self.yard)
        handler.setFormatter(Formatter("{k}"))
        for record in (self.record(), self.record("{", (1,))):
            self.assertIs(handler.handle(record), True)
        handler.close()
        self.assertIs(handler.handle(self.record()), True)
        self.assertEqual((self.yard.streams(), self.yard.files(), self.yard.failures()), ([], {}, []))
