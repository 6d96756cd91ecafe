"""[6], [7], [8], [14] and [16] at yards: clock, streams, files, levels, records, loggers, the bar."""

import unittest

from recordyard.errors import BadExtra, BadLevel, BadName
from recordyard.files import FileHandler
from recordyard.filters import Filter
from recordyard.formatters import Formatter
from recordyard.handlers import NullHandler, StreamHandler
from recordyard.loggers import Logger
from recordyard.records import LogRecord
from recordyard.yards import Yard
from tests.helpers import not_integers, one_of_each

FIRST = {"CRITICAL": 50, "FATAL": 50, "ERROR": 40, "WARNING": 30, "WARN": 30, "INFO": 20, "DEBUG": 10, "NOTSET": 0}


class Clocks(unittest.TestCase):
    def test_what_it_shows_at_first(self):
        self.assertEqual((Yard().now(), Yard(7).now(), Yard(now=253402300799999).now()), (0, 7, 253402300799999))

    def test_it_moves_on_only_as_it_is_told(self):
        yard = Yard(5)
        told = []
        for milliseconds in (0, 1, 999, 0, 10 ** 12):
            self.assertIsNone(yard.advance(milliseconds))
            told.append(yard.now())
        self.assertEqual(told, [5, 6, 1005, 1005, 1005 + 10 ** 12])
        yard.advance(milliseconds=2)
        self.assertEqual((yard.now(), yard.now()), (1007 + 10 ** 12,) * 2)

    def test_records_and_lines_tell_what_it_shows(self):
        yard = Yard(1000)
        handler = StreamHandler(yard, "out")
        handler.setFormatter(Formatter("{created} {asctime} {msecs}"))
        yard.root.addHandler(handler)
        yard.root.error("m")
        yard.advance(86400 * 1000 + 7)
        yard.root.error("m")
        self.assertEqual(yard.text("out"), "1000 1970-01-01 00:00:01,000 0\n86401007 1970-01-02 00:00:01,007 7\n")


class Streams(unittest.TestCase):
    def setUp(self):
        self.yard = Yard()

    def write(self, stream, *messages, terminator="\n"):
        handler = StreamHandler(self.yard, stream)
        handler.setTerminator(terminator)
        for message in messages:
            self.assertIs(handler.handle(self.yard.make_record("a", 20, message)), True)

    def test_a_stream_to_which_nobody_wrote(self):
        self.assertEqual((self.yard.text("out"), self.yard.text(stream=""), self.yard.streams()), ("", "", []))
        StreamHandler(self.yard, "out")
        self.assertEqual((self.yard.text("out"), self.yard.streams()), ("", []))

    def test_all_that_was_written_stands_one_after_another(self):
        self.write("out", "a", "b")
        self.assertEqual(self.yard.text("out"), "a\nb\n")
        self.write("out", "c")
        self.write("err", "d")
        self.assertEqual((self.yard.text("out"), self.yard.text("err")), ("a\nb\nc\n", "d\n"))
        self.assertEqual(self.yard.text("out"), "a\nb\nc\n")

    def test_names_stand_ascending(self):
        for stream in ("out", "b", "", "B", "a b", "err", "out"):
            self.write(stream, "m")
        self.assertEqual(self.yard.streams(), ["", "B", "a b", "b", "err", "out"])
        self.yard.streams().clear()
        self.assertEqual(len(self.yard.streams()), 6)

    def test_a_stream_to_which_only_empty_texts_were_written(self):
        self.write("out", "", "", terminator="")
        self.assertEqual((self.yard.text("out"), self.yard.streams()), ("", []))
        self.write("out", "x", "", terminator="")
        self.assertEqual((self.yard.text("out"), self.yard.streams()), ("x", ["out"]))

    def test_streams_are_no_files(self):
        self.write("out", "m")
        self.yard.put_file("log", "x")
        self.assertEqual((self.yard.streams(), self.yard.files(), self.yard.text("log")), (["out"], {"log": "x"}, ""))

    def test_many_short_texts(self):
        self.write("out", *["x" * 9] * 50000)
        self.assertEqual(self.yard.text("out"), ("x" * 9 + "\n") * 50000)


class Files(unittest.TestCase):
    def setUp(self):
        self.yard = Yard()

    def test_putting_and_removing(self):
        self.assertEqual(self.yard.files(), {})
        self.assertIsNone(self.yard.put_file("b", "x\n"))
        self.yard.put_file(text="", name="a")
        self.assertEqual(self.yard.files(), {"a": "", "b": "x\n"})
        self.assertIsNone(self.yard.remove_file("b"))
        self.yard.remove_file(name="b")
        self.yard.remove_file("none")
        self.assertEqual(self.yard.files(), {"a": ""})

    def test_over_a_file_that_there_is(self):
        self.yard.put_file("a", "first")
        self.yard.put_file("a", "second")
        self.assertEqual(self.yard.files(), {"a": "second"})
        self.yard.put_file("a", "")
        self.assertEqual(self.yard.files(), {"a": ""})

    def test_the_dict_is_a_new_one(self):
        self.yard.put_file("a", "x")
        told = self.yard.files()
        told["a"] = "y"
        told["b"] = "z"
        self.assertEqual(self.yard.files(), {"a": "x"})
        self.yard.put_file("a", "later")
        self.assertEqual(told, {"a": "y", "b": "z"})


class Levels(unittest.TestCase):
    def setUp(self):
        self.yard = Yard()

    def test_at_first(self):
        self.assertEqual(self.yard.level_names(), FIRST)
        told = [self.yard.level_name(level) for level in (0, 10, 20, 30, 40, 50, 51, 1, -1, -10 ** 18)]
        names = ["NOTSET", "DEBUG", "INFO", "WARNING", "ERROR", "CRITICAL", "Level 51", "Level 1", "Level -1", "Level -" + "1" + "0" * 18]
        self.assertEqual(told, names)

    def test_names_given_and_replaced(self):
        self.assertIsNone(self.yard.add_level_name(25, "NOTE"))
        self.yard.add_level_name(name="", level=-5)
        self.assertEqual((self.yard.level_name(25), self.yard.level_name(level=-5)), ("NOTE", ""))
        self.yard.add_level_name(25, "INFO")
        self.assertEqual(self.yard.level_names(), {**FIRST, "NOTE": 25, "": -5, "INFO": 25})
        self.assertEqual((self.yard.level_name(20), self.yard.level_name(25)), ("INFO", "INFO"))
        self.yard.level_names().clear()
        self.assertEqual(len(self.yard.level_names()), 10)

    def test_each_method_that_takes_a_level_takes_names(self):
        self.yard.add_level_name(-5, "")
        self.yard.add_level_name(20, "TOLD")
        for name, number in (("", -5), ("TOLD", 20), ("INFO", 20), ("WARN", 30)):
            for handler in one_of_each(self.yard):
                handler.setLevel(name)
                self.assertEqual(handler.level, number)
            self.yard.root.setLevel(name)
            self.yard.disable(name)
            record = self.yard.make_record("a", name, "m")
            told = (self.yard.root.level, self.yard.bar(), record.levelno, record.levelname)
            self.assertEqual(told, (number, number, number, self.yard.level_name(number)))

    def test_each_method_that_takes_a_level_refuses_other_objects(self):
        self.yard.disable(7)
        things = [self.yard.root, self.yard.getLogger("a")] + one_of_each(self.yard)
        for thing in things:
            thing.setLevel(8)
        wrong = not_integers() + ["info", "Level 8", "8"]
        calls = [thing.setLevel for thing in things] + [self.yard.disable, lambda level: self.yard.make_record("a", level, "m")]
        for level in wrong:
            for call in calls:
                with self.assertRaises(BadLevel) as caught:
                    call(level)
                self.assertIs(caught.exception.level, level)
        self.assertEqual((self.yard.bar(), [thing.level for thing in things]), (7, [8] * len(things)))

    def test_records_keep_the_name_of_their_moment(self):
        handler = StreamHandler(self.yard, "out")
        handler.setFormatter(Formatter("{levelname}"))
        record = self.yard.make_record("a", 20, "m")
        self.yard.add_level_name(20, "TOLD")
        handler.handle(record)
        handler.handle(self.yard.make_record("a", 20, "m"))
        self.assertEqual(self.yard.text("out"), "INFO\nTOLD\n")


class Records(unittest.TestCase):
    def test_a_record(self):
        yard = Yard(123)
        record = yard.make_record("x", "ERROR", "{}", [1], {"k": 2})
        self.assertIsInstance(record, LogRecord)
        told = (record.name, record.levelno, record.levelname, record.msg, record.given, record.created, record.extra)
        self.assertEqual(told, ("x", 40, "ERROR", "{}", (1,), 123, {"k": 2}))
        other = yard.make_record(extra=None, args=(), msg="m", level=20, name="")
        self.assertEqual((other.name, other.given, other.extra), ("", (), {}))

    def test_wrong_ones(self):
        with self.assertRaises(BadExtra) as caught:
            Yard().make_record("x", 20, "m", (), {"z": 1, "name": 2, "msg": 3})
        self.assertEqual(caught.exception.name, "msg")

    def test_making_one_writes_nothing(self):
        yard = Yard()
        yard.make_record("x", 50, "m")
        self.assertEqual((yard.streams(), yard.loggers()), ([], []))


class Loggers(unittest.TestCase):
    def setUp(self):
        self.yard = Yard()

    def test_the_root(self):
        root = self.yard.root
        self.assertIsInstance(root, Logger)
        self.assertIs(root.yard, self.yard)
        for name in ("", "root"):
            self.assertIs(self.yard.getLogger(name), root)
        self.assertIs(self.yard.getLogger(), root)
        self.assertEqual((root.name, root.level, self.yard.loggers()), ("root", 30, []))

    def test_others(self):
        one = self.yard.getLogger(name="b.c")
        self.assertIs(self.yard.getLogger("b.c"), one)
        self.yard.getLogger("a")
        self.assertEqual(self.yard.loggers(), ["a", "b.c"])
        self.yard.loggers().clear()
        self.assertEqual(self.yard.loggers(), ["a", "b.c"])

    def test_no_names(self):
        for name in (None, 0, True, "a.", ".", "a b", [], ("a",), {"a": 1}):
            with self.assertRaises(BadName) as caught:
                self.yard.getLogger(name)
            self.assertIs(caught.exception.name, name)
        self.assertEqual(self.yard.loggers(), [])

    def test_the_bar(self):
        self.assertEqual(self.yard.bar(), 0)
        self.assertIsNone(self.yard.disable())
        self.assertEqual(self.yard.bar(), 50)
        self.yard.disable(level="ERROR")
        self.assertEqual(self.yard.bar(), 40)
        self.yard.root.addHandler(StreamHandler(self.yard, "out"))
        self.yard.root.error("m")
        self.yard.root.critical("n")
        self.assertEqual(self.yard.text("out"), "n\n")

    def test_a_record_goes_the_whole_way(self):
        one, other = self.yard.getLogger("a"), self.yard.getLogger("a.b")
        handlers = [StreamHandler(self.yard, "out") for _ in range(4)]
        for handler, word in zip(handlers, "1234"):
            handler.setFormatter(Formatter(word + " {name} {message}"))
        other.addHandler(handlers[2])
        other.addHandler(handlers[0])
        one.addHandler(handlers[3])
        self.yard.root.addHandler(handlers[0])
        self.yard.root.addHandler(handlers[1])
        handlers[1].setLevel(31)
        handlers[3].addFilter(Filter("a.c"))
        other.warning("{}!", ("m",))
        self.assertEqual(self.yard.text("out"), "3 a.b m!\n1 a.b m!\n1 a.b m!\n")
        one.setPropagate(False)
        other.error("n")
        self.assertEqual(self.yard.text("out")[27:], "3 a.b n\n1 a.b n\n")

    def test_what_a_handlers_filter_puts_in_the_place_stays_there(self):
        first, second = StreamHandler(self.yard, "out"), StreamHandler(self.yard, "out")
        low = self.yard.make_record("x", 5, "other")
        first.addFilter(lambda record: low)
        second.setLevel(20)
        self.yard.root.addHandler(first)
        self.yard.root.addHandler(second)
        self.yard.root.error("m")
        self.assertEqual(self.yard.text("out"), "other\nm\n")

    def test_what_a_loggers_filter_puts_in_the_place_goes_to_all(self):
        low = self.yard.make_record("x", 5, "other")
        for level in (5, 6):
            handler = StreamHandler(self.yard, "out")
            handler.setFormatter(Formatter("{levelno} {name} {message}"))
            handler.setLevel(level)
            self.yard.root.addHandler(handler)
        one = self.yard.getLogger("a")
        one.addFilter(lambda record: low)
        one.error("m")
        self.assertEqual(self.yard.text("out"), "5 x other\n")


class TwoYards(unittest.TestCase):
    def told(self, yard):
        handlers = [(name, yard.getHandlerByName(name).level) for name in yard.getHandlerNames()]
        loggers = [(name, yard.getLogger(name).level, len(yard.getLogger(name).handlers)) for name in ["root"] + yard.loggers()]
        streams = [(name, yard.text(name)) for name in yard.streams()]
        return yard.now(), streams, yard.files(), yard.level_names(), yard.level_name(20), yard.bar(), handlers, loggers, yard.failures()

    def busy(self, yard):
        yard.advance(5)
        yard.add_level_name(20, "TOLD")
        yard.disable(10)
        handler = StreamHandler(yard, "out")
        handler.setName("h")
        handler.setLevel("TOLD")
        for name in ("", "a.b"):
            yard.getLogger(name).addHandler(handler)
            yard.getLogger(name).setLevel(1)
        FileHandler(yard, "log").handle(yard.make_record("x", 20, "m"))
        yard.put_file("other", "x")
        yard.getLogger("a.b").info("m")
        yard.getLogger("a.b").info("{", (1,))
        NullHandler(yard).setName("n")

    def test_what_is_done_at_one_is_not_seen_at_the_other(self):
        one, other, fresh = Yard(), Yard(), self.told(Yard())
        self.assertEqual((self.told(one), self.told(other)), (fresh, fresh))
        self.busy(one)
        self.assertEqual(self.told(other), fresh)
        self.assertEqual(self.told(one), (
            5, [("out", "m\nm\n")], {"log": "m\n", "other": "x"}, {**FIRST, "TOLD": 20}, "TOLD", 10,
            [("h", 20), ("n", 0)], [("root", 1, 1), ("a.b", 1, 1)], [("a.b", "message"), ("a.b", "message")],
        ))
        self.busy(other)
        self.assertEqual(self.told(other), self.told(one))
        one.shutdown()
        self.assertEqual((one.getHandlerNames(), other.getHandlerNames()), ([], ["h", "n"]))
        self.assertIsNot(one.getLogger("a.b"), other.getLogger("a.b"))
        self.assertIsNot(one.root, other.root)
