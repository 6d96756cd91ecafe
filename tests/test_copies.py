"""[34]: copies of yards."""

import unittest

from recordyard.copies import copied
from recordyard.files import FileHandler
from recordyard.filters import Filter
from recordyard.formatters import Formatter
from recordyard.handlers import NullHandler, StreamHandler
from recordyard.memory import MemoryHandler
from recordyard.queues import Queue, QueueHandler
from recordyard.rotating import RotatingFileHandler
from recordyard.settings import configure
from recordyard.timed import TimedRotatingFileHandler
from recordyard.yards import Yard
from tests.helpers import Asked, all_loggers, one_of_each, standing


class Copies(unittest.TestCase):
    def setUp(self):
        self.yard = Yard(5000)

    def copied(self):
        """A copy of the yard, which stays as it is."""
        before = standing(self.yard)
        other = copied(self.yard)
        self.assertEqual(standing(self.yard), before)
        self.assertIs(type(other), Yard)
        self.assertNotEqual(other, self.yard)
        return other

    def record(self, message="m", name="a", level=20):
        return self.yard.make_record(name, level, message)


class Parts(Copies):
    def test_an_empty_yard(self):
        other = self.copied()
        self.assertEqual((other.now(), other.loggers(), other.files(), other.streams(), other.bar()), (5000, [], {}, [], 0))
        self.assertEqual((other.root.level, other.root.yard, other.root.name, other.root.parent), (30, other, "root", None))
        other.root.error("m")
        self.assertEqual((other.text("stderr"), self.yard.text("stderr")), ("m\n", ""))
        self.assertEqual(standing(copied(yard=self.yard))[:6], standing(self.yard)[:6])

    def test_the_clock(self):
        other = self.copied()
        other.advance(5)
        self.yard.advance(7)
        self.assertEqual((other.now(), self.yard.now()), (5005, 5007))

    def test_the_bar(self):
        self.yard.disable(35)
        other = self.copied()
        self.assertEqual(other.bar(), 35)
        other.disable(-1)
        self.assertEqual((self.yard.bar(), self.copied().bar(), other.bar()), (35, 35, -1))

    def test_names_of_levels(self):
        self.yard.add_level_name(7, "own")
        self.yard.add_level_name(8, "own")
        self.yard.add_level_name(20, "")
        other = self.copied()
        self.assertEqual(other.level_names(), self.yard.level_names())
        self.assertEqual([other.level_name(level) for level in range(60)], [self.yard.level_name(level) for level in range(60)])
        other.add_level_name(7, "else")
        self.yard.add_level_name(30, "mine")
        self.assertEqual((self.yard.level_name(7), other.level_name(30)), ("own", "WARNING"))
        self.assertNotIn("else", self.yard.level_names())
        self.assertNotIn("mine", other.level_names())

    def test_streams(self):
        self.yard.root.error("m")
        other = self.copied()
        self.assertEqual((other.streams(), other.text("stderr")), (["stderr"], "m\n"))
        other.root.error("n")
        self.yard.root.error("o")
        self.assertEqual((other.text("stderr"), self.yard.text("stderr")), ("m\nn\n", "m\no\n"))

    def test_files_with_their_times(self):
        self.yard.put_file("old", "x")
        self.yard.advance(60000)
        self.yard.put_file("new", "")
        self.yard.advance(60000)
        other = self.copied()
        self.assertEqual(other.files(), {"new": "", "old": "x"})
        for yard in (self.yard, other):
            told = [TimedRotatingFileHandler(yard, name, "S").rolloverAt for name in ("old", "new", "none")]
            self.assertEqual(told, [6, 66, 126])
        other.remove_file("old")
        self.yard.put_file("new", "y")
        other.put_file("other", "")
        self.assertEqual((self.yard.files(), other.files()), ({"new": "y", "none": "", "old": "x"}, {"new": "", "none": "", "other": ""}))

    def test_failures(self):
        self.yard.root.error("{}", (1, 2))
        other = self.copied()
        self.assertEqual(other.failures(), [("root", "message")])
        other.root.error("{", (1,))
        self.assertEqual((self.yard.failures(), len(other.failures())), ([("root", "message")], 2))

    def test_loggers(self):
        for number, name in enumerate(("a.b.c", "a", "a.b", "b", "root.x", "")):
            logger = self.yard.getLogger(name)
            logger.setLevel(number)
            logger.setPropagate(number % 2 == 0)
            logger.setDisabled(number % 3 == 0)
        other = self.copied()
        self.assertEqual(other.loggers(), self.yard.loggers())
        for mine, twin in zip(all_loggers(self.yard), all_loggers(other)):
            self.assertNotEqual(mine, twin)
            told = [(one.name, one.level, one.propagate, one.disabled, one.getEffectiveLevel()) for one in (mine, twin)]
            self.assertEqual(told[0], told[1])
            self.assertEqual((twin.yard, other.getLogger(twin.name)), (other, twin))
            if mine.parent is not None:
                self.assertEqual(twin.parent, other.getLogger(mine.parent.name))
        other.getLogger("a").setLevel(77)
        self.yard.getLogger("b").setDisabled(False)
        other.getLogger("c")
        self.assertEqual((self.yard.getLogger("a").level, other.getLogger("b").disabled), (1, True))
        self.assertNotIn("c", self.yard.loggers())


class Handlers(Copies):
    def test_each_class_on_a_logger(self):
        handlers = one_of_each(self.yard)
        one = Filter("a")
        for number, handler in enumerate(handlers):
            handler.setLevel(number)
            handler.setTerminator(str(number))
            handler.setFormatter(Formatter("{name}") if number % 2 else None)
            handler.setName(f"h{number}")
            handler.addFilter(one)
            self.yard.root.addHandler(handler)
        handlers[0].setStream("out")
        other = self.copied()
        twins = other.root.handlers
        self.assertEqual(len(twins), len(handlers))
        for mine, twin in zip(handlers, twins):
            self.assertNotEqual(mine, twin)
            self.assertIs(type(mine), type(twin))
            self.assertEqual(twin.yard, other)
            for name in ("level", "terminator", "name", "stream", "filename", "rolloverAt"):
                self.assertEqual(getattr(twin, name, None), getattr(mine, name, None))
            self.assertEqual(twin.formatter is None, mine.formatter is None)
            self.assertEqual(other.getHandlerByName(mine.name), twin)
            self.assertEqual([filter.name for filter in twin.filters], ["a"])
            self.assertNotEqual(twin.filters[0], one)
        self.assertEqual(len({id(twin.filters[0]) for twin in twins}), 1)
        self.assertEqual(other.getHandlerNames(), self.yard.getHandlerNames())

    def test_they_go_on_alike(self):
        for handler in one_of_each(self.yard):
            self.yard.root.addHandler(handler)
        self.yard.root.error("early {}", ("m",))
        other = self.copied()
        for yard in (self.yard, other):
            yard.root.warning("late")
            yard.advance(7200000)
            yard.root.error("later")
            yard.root.error("{", (1,))
            yard.shutdown()
            yard.root.error("behind")
        self.assertEqual((other.files(), other.failures()), (self.yard.files(), self.yard.failures()))
        self.assertEqual([(name, other.text(name)) for name in other.streams()], [(name, self.yard.text(name)) for name in self.yard.streams()])
        self.assertEqual(len(other.files()), 6)

    def test_what_is_set_at_one_is_not_set_at_the_other(self):
        handler, one = StreamHandler(self.yard, "out"), Filter("b")
        handler.setName("h")
        self.yard.root.addHandler(handler)
        other = self.copied()
        twin = other.getHandlerByName("h")
        twin.setLevel(5)
        twin.setStream("else")
        twin.setTerminator("")
        twin.setFormatter(Formatter("{name}"))
        twin.addFilter(one)
        twin.setName("i")
        self.assertEqual((handler.level, handler.stream, handler.terminator, handler.formatter, handler.filters, handler.name), (0, "out", "\n", None, [], "h"))
        self.assertEqual((self.yard.getHandlerNames(), other.getHandlerNames()), (["h"], ["i"]))
        handler.addFilter(one)
        self.yard.root.removeHandler(handler)
        self.assertEqual((len(twin.filters), other.root.handlers), (1, [twin]))

    def test_what_several_things_share(self):
        handler, one, formatter = StreamHandler(self.yard, "out"), Filter("a"), Formatter("{name}")
        second = NullHandler(self.yard)
        for thing in (handler, second):
            thing.setFormatter(formatter)
            thing.addFilter(one)
        for name in ("", "a", "b"):
            self.yard.getLogger(name).addHandler(handler)
            self.yard.getLogger(name).addFilter(one)
        self.yard.root.addHandler(second)
        handler.setName("h")
        other = self.copied()
        twin = other.getHandlerByName("h")
        self.assertEqual([one.handlers[0] for one in all_loggers(other)], [twin] * 3)
        self.assertEqual([one.filters for one in all_loggers(other)], [twin.filters] * 3)
        self.assertEqual(other.root.handlers[1].filters, twin.filters)
        self.assertEqual(other.root.handlers[1].formatter, twin.formatter)
        self.assertNotEqual(twin.formatter, formatter)
        self.assertNotEqual(twin.filters, [one])

    def test_things_that_look_alike_are_not_shared(self):
        for name in ("a", "b"):
            self.yard.getLogger(name).addFilter(Filter("x"))
            handler = StreamHandler(self.yard)
            handler.setFormatter(Formatter("{name}"))
            self.yard.getLogger(name).addHandler(handler)
        first, second = all_loggers(self.copied())[1:]
        self.assertNotEqual(first.filters, second.filters)
        self.assertNotEqual(first.handlers, second.handlers)
        self.assertNotEqual(first.handlers[0].formatter, second.handlers[0].formatter)

    def test_functions_are_the_same(self):
        asked = Asked(True)
        handler = RotatingFileHandler(self.yard, "log", maxBytes=3, backupCount=1)
        handler.setNamer(lambda name: "old " + name)
        handler.addFilter(asked)
        self.yard.root.addHandler(handler)
        self.yard.root.addFilter(asked)
        other = self.copied()
        self.assertEqual((other.root.filters, other.root.handlers[0].filters), ([asked], [asked]))
        other.root.error("one")
        other.root.error("two")
        self.assertEqual((other.files(), self.yard.files(), len(asked.records)), ({"log": "two\n", "old log.1": "one\n"}, {"log": ""}, 4))

    def test_formatters(self):
        lines = [Formatter("{name:>5} {x}", defaults={"x": [1]}), Formatter("$message}", "$"), Formatter("plain", validate=False), Formatter("{asctime}{{")]
        for formatter in lines:
            handler = NullHandler(self.yard)
            handler.setFormatter(formatter)
            self.yard.root.addHandler(handler)
        other = self.copied()
        for mine, handler in zip(lines, other.root.handlers):
            self.assertNotEqual(mine, handler.formatter)
            told = [(one.formatted(self.record()), one.fields(), one.uses_time()) for one in (mine, handler.formatter)]
            self.assertEqual(told[0], told[1])

    def test_names_that_lead_elsewhere(self):
        first, second, gone = StreamHandler(self.yard, "1"), StreamHandler(self.yard, "2"), StreamHandler(self.yard, "3")
        first.setName("x")
        second.setName("x")
        gone.setName("y")
        gone.close()
        for handler in (first, second, gone):
            self.yard.root.addHandler(handler)
        other = self.copied()
        twins = other.root.handlers
        self.assertEqual((other.getHandlerNames(), other.getHandlerByName("x")), (["x"], twins[1]))
        self.assertEqual([twin.name for twin in twins], ["x", "x", "y"])
        twins[0].setName(None)
        self.assertEqual((other.getHandlerNames(), self.yard.getHandlerNames()), ([], ["x"]))

    def test_files_are_not_opened_again(self):
        for name, delay in (("w", False), ("late", True), ("closed", False)):
            self.yard.put_file(name, "old ")
            self.yard.root.addHandler(FileHandler(self.yard, name, "w", delay))
        self.yard.root.handlers[0].handle(self.record("one"))
        self.yard.root.handlers[2].close()
        self.yard.remove_file("closed")
        other = self.copied()
        self.assertEqual(other.files(), {"late": "old ", "w": "one\n"})
        for handler in other.root.handlers:
            handler.handle(self.record("two"))
        self.assertEqual(other.files(), {"late": "two\n", "w": "one\ntwo\n"})
        self.assertEqual(self.yard.files(), {"late": "old ", "w": "one\n"})

    def test_files_that_are_not_there_are_not_made(self):
        for delay in (True, False):
            for make in (FileHandler, RotatingFileHandler, TimedRotatingFileHandler):
                self.yard.root.addHandler(make(self.yard, "log", delay=delay))
                self.yard.remove_file("log")
                self.assertEqual((self.copied().files(), self.yard.files()), ({}, {}))

    def test_rotating_files_of_the_mode_w(self):
        handler = RotatingFileHandler(self.yard, "log", "w")
        self.yard.root.addHandler(handler)
        handler.handle(self.record("one"))
        handler.close()
        other = self.copied()
        other.root.handlers[0].handle(self.record("two"))
        self.assertEqual((self.yard.files(), other.files()), ({"log": "one\n"}, {"log": "two\n"}))

    def test_times_of_rollovers(self):
        handler = TimedRotatingFileHandler(self.yard, "log", "m", 2, 1, True)
        self.yard.root.addHandler(handler)
        self.yard.put_file("log", "x")
        self.yard.advance(1000000)
        other = self.copied()
        twin = other.root.handlers[0]
        self.assertEqual((twin.rolloverAt, handler.rolloverAt), (125, 125))
        other.root.error("m")
        self.assertEqual((twin.rolloverAt, handler.rolloverAt), (1125, 125))
        self.assertEqual((other.files(), self.yard.files()), ({"log": "m\n", "log.1970-01-01_00-00": "x"}, {"log": "x"}))


class Leading(Copies):
    def test_targets(self):
        sink = StreamHandler(self.yard, "out")
        inner = MemoryHandler(self.yard, 9, 99, sink)
        outer = MemoryHandler(self.yard, 9, 99, inner, False)
        lone = MemoryHandler(self.yard, 9, 99)
        for handler in (outer, lone):
            self.yard.root.addHandler(handler)
        self.yard.root.error("one")
        inner.handle(self.record("two"))
        other = self.copied()
        twin = other.root.handlers[0]
        self.assertEqual(twin.buffer(), outer.buffer())
        other.root.error("three")
        self.assertEqual((len(twin.buffer()), len(outer.buffer())), (2, 1))
        twin.flush()
        other.shutdown()
        self.assertEqual((other.text("out"), self.yard.text("out"), self.yard.streams()), ("two\none\nthree\n", "", []))
        self.assertEqual([len(one.buffer()) for one in (outer, inner, lone)], [1, 1, 1])
        self.assertEqual([one.message() for one in other.root.handlers[1].buffer()], ["one", "three"])

    def test_a_target_that_was_made_later_and_hangs_elsewhere_too(self):
        memory = MemoryHandler(self.yard, 0)
        sink = StreamHandler(self.yard, "out")
        memory.setTarget(sink)
        self.yard.root.addHandler(sink)
        self.yard.getLogger("a").addHandler(memory)
        other = self.copied()
        other.root.handlers[0].setTerminator("!")
        other.getLogger("a").error("m")
        self.assertEqual((other.text("out"), self.yard.text("out")), ("m!m!", ""))

    def test_queues(self):
        shared, lone = Queue(), Queue()
        for queue in (shared, shared, lone):
            self.yard.root.addHandler(QueueHandler(self.yard, queue))
        self.yard.root.error("m")
        other = self.copied()
        twins = [handler.queue for handler in other.root.handlers]
        self.assertEqual(twins[0], twins[1])
        self.assertNotEqual(twins[1], twins[2])
        self.assertEqual((len(twins[0]), len(twins[2])), (2, 1))
        self.assertEqual([handler.listener for handler in other.root.handlers], [None] * 3)
        first = twins[0].get()
        self.assertEqual((len(shared), len(twins[0])), (2, 1))
        # The records are the same ones.
        self.assertEqual(shared.get(), first)
        lone.put(first)
        self.assertEqual((len(lone), len(twins[2])), (2, 1))

    def test_listeners(self):
        configure(self.yard, {"version": 1, "handlers": {
            "q": {"class": "queue", "handlers": ["s", "t"], "respect_handler_level": True}, "s": {"class": "stream", "stream": "out", "level": 40},
            "t": {"class": "stream", "stream": "out", "terminator": "t "}, "p": {"class": "queue", "handlers": ["t"]},
        }, "root": {"handlers": ["q", "p"]}})
        self.yard.root.warning("w")
        other = self.copied()
        twin = other.getHandlerByName("q")
        self.assertNotEqual(twin.listener, self.yard.getHandlerByName("q").listener)
        other.getHandlerByName("t").setTerminator("T ")
        self.assertEqual((twin.listener.run(), other.text("out"), len(twin.queue)), (1, "wT ", 0))
        self.assertEqual((self.yard.text("out"), len(self.yard.getHandlerByName("q").queue)), ("", 1))
        twin.handle(self.record("e", level=40))
        self.assertEqual((twin.listener.run(), other.text("out")), (1, "wT e\neT "))
        self.assertEqual((other.getHandlerByName("p").listener.run(), self.yard.getHandlerByName("p").listener.run()), (1, 1))

    def test_handlers_that_hang_on_a_listener_alone_and_are_closed(self):
        rows = {"q": {"class": "queue", "handlers": [""]}, "": {"class": "file", "filename": "log", "delay": True}}
        configure(self.yard, {"version": 1, "handlers": rows, "root": {"handlers": ["q"]}})
        self.yard.root.error("m")
        self.yard.shutdown()
        other = self.copied()
        self.assertEqual((other.root.handlers[0].listener.run(), other.files(), self.yard.files()), (1, {"log": "m\n"}, {}))


class Closing(Copies):
    def test_those_that_have_not_been_closed_are_there(self):
        sink = StreamHandler(self.yard, "out")
        for name in ("one", "two", "three", "four"):
            memory = MemoryHandler(self.yard, 9, 99, sink)
            memory.handle(self.record(name))
            if name == "two":
                memory.close()
        self.assertEqual(self.yard.text("out"), "two\n")
        other = self.copied()
        del memory, sink
        other.shutdown()
        # Made in the same order, so closed in the same one.
        self.assertEqual((other.text("out"), self.yard.text("out")), ("two\nfour\nthree\none\n", "two\n"))

    def test_those_that_have_been_closed(self):
        memory = MemoryHandler(self.yard, 9, 99)
        memory.setName("x")
        self.yard.root.addHandler(memory)
        memory.close()
        memory.setTarget(StreamHandler(self.yard, "out"))
        memory.setName("x")
        self.yard.root.error("m")
        other = self.copied()
        other.shutdown()
        self.assertEqual((other.text("out"), other.getHandlerNames(), len(other.root.handlers[0].buffer())), ("", ["x"], 1))
        other.root.handlers[0].flush()
        self.assertEqual((other.text("out"), self.yard.text("out")), ("m\n", ""))

    def test_handlers_made_later_are_closed_first(self):
        early = MemoryHandler(self.yard, 9, 99, StreamHandler(self.yard, "out"))
        early.handle(self.record("early"))
        self.yard.root.addHandler(early)
        other = self.copied()
        late = MemoryHandler(other, 9, 99, StreamHandler(other, "out"))
        late.handle(self.record("late"))
        other.shutdown()
        self.assertEqual((other.text("out"), self.yard.text("out")), ("late\nearly\n", ""))

    def test_shutdown_at_one_is_none_at_the_other(self):
        handler = FileHandler(self.yard, "log", "w")
        handler.setName("h")
        self.yard.root.addHandler(handler)
        other = self.copied()
        other.shutdown()
        self.yard.root.error("m")
        other.root.error("m")
        self.assertEqual((self.yard.files(), other.files(), self.yard.getHandlerNames()), ({"log": "m\n"}, {"log": ""}, ["h"]))

    def test_a_copy_of_a_copy(self):
        for handler in one_of_each(self.yard):
            handler.setName(handler.__class__.__name__ + str(len(self.yard.root.handlers)))
            self.yard.root.addHandler(handler)
        self.yard.root.error("m")
        second = copied(self.copied())
        self.yard.root.error("n")
        first = self.copied()
        second.root.error("n")
        self.assertEqual(first.files(), second.files())
        self.assertEqual([first.text(name) for name in first.streams()], [second.text(name) for name in second.streams()])
        self.assertEqual(first.getHandlerNames(), second.getHandlerNames())
        yards = (self.yard, first, second)
        self.assertEqual(len({id(yard.root.handlers[0]) for yard in yards}), 3)

    def test_settings_are_laid_over_a_copy_alone(self):
        handler = StreamHandler(self.yard, "out")
        handler.setName("h")
        self.yard.root.addHandler(handler)
        before = standing(self.yard)
        other = self.copied()
        configure(other, {"version": 1, "handlers": {"h": {"class": "null"}}, "root": {"handlers": ["h"]}, "loggers": {"x": {}}})
        self.assertEqual(standing(self.yard), before)
        self.assertIs(handler.closed, False)
