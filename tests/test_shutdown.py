"""[29]: the shutdown of a yard."""

import unittest

from recordyard.files import FileHandler
from recordyard.handlers import NullHandler, StreamHandler
from recordyard.memory import MemoryHandler
from recordyard.queues import Queue, QueueHandler, QueueListener
from recordyard.rotating import RotatingFileHandler
from recordyard.timed import TimedRotatingFileHandler
from recordyard.yards import Yard
from tests.helpers import keeper, one_of_each


class Shutdown(unittest.TestCase):
    def setUp(self):
        self.yard = Yard()

    def tell(self, handler, message):
        self.assertIs(handler.handle(self.yard.make_record("a", 20, message)), True)

    def test_of_a_yard_without_handlers(self):
        self.assertIsNone(self.yard.shutdown())
        self.assertIsNone(self.yard.shutdown())

    def test_all_handlers_are_closed(self):
        handlers = one_of_each(self.yard)
        for number, handler in enumerate(handlers):
            handler.setName(str(number))
        self.yard.shutdown()
        self.assertEqual(self.yard.getHandlerNames(), [])
        self.assertEqual([handler.name for handler in handlers], [str(number) for number in range(len(handlers))])

    def test_those_that_hang_on_no_logger_too(self):
        loose, hung = FileHandler(self.yard, "loose", "w"), FileHandler(self.yard, "hung", "w")
        self.yard.root.addHandler(hung)
        self.yard.shutdown()
        self.tell(loose, "m")
        self.yard.root.error("m")
        self.assertEqual(self.yard.files(), {"hung": "", "loose": ""})
        self.assertEqual((self.yard.root.handlers, self.yard.text("stderr")), ([hung], ""))

    def test_those_that_were_closed_already_are_not_closed_again(self):
        first, second = StreamHandler(self.yard), NullHandler(self.yard)
        first.setName("x")
        first.close()
        second.setName("y")
        first.setName("x")
        self.yard.shutdown()
        # The name was given behind close(), so only another close() would take it away.
        self.assertEqual(self.yard.getHandlerNames(), ["x"])
        first.close()
        self.assertEqual(self.yard.getHandlerNames(), [])

    def test_called_twice(self):
        handler = RotatingFileHandler(self.yard, "log", "w")
        handler.setName("x")
        self.yard.shutdown()
        self.tell(handler, "m")
        handler.setName("x")
        self.yard.shutdown()
        self.tell(handler, "n")
        self.assertEqual((self.yard.files(), self.yard.getHandlerNames()), ({"log": "m\nn\n"}, ["x"]))

    def test_handlers_made_later_are_closed_by_the_next_one(self):
        self.yard.shutdown()
        handler = FileHandler(self.yard, "log", "w")
        self.tell(handler, "m")
        self.yard.shutdown()
        self.tell(handler, "n")
        self.assertEqual(self.yard.files(), {"log": "m\n"})

    def test_handlers_are_used_further(self):
        handlers = [StreamHandler(self.yard, "out"), FileHandler(self.yard, "a"), FileHandler(self.yard, "w", "w")]
        for handler in handlers:
            self.yard.root.addHandler(handler)
        self.yard.root.error("m")
        self.yard.shutdown()
        self.yard.root.error("n")
        self.assertEqual((self.yard.text("out"), self.yard.files()), ("m\nn\n", {"a": "m\nn\n", "w": "m\n"}))

    def test_loggers_records_and_the_clock_go_on(self):
        self.yard.shutdown()
        self.yard.advance(5)
        self.yard.getLogger("a").error("m")
        self.assertEqual((self.yard.now(), self.yard.loggers(), self.yard.text("stderr")), (5, ["a"], "m\n"))


class Memories(unittest.TestCase):
    def setUp(self):
        self.yard = Yard()

    def memory(self, target, message, flushes=True):
        """A memory that keeps one record."""
        handler = MemoryHandler(self.yard, 100, 40, target, flushes)
        handler.handle(self.yard.make_record("a", 20, message))
        return handler

    def test_the_one_that_was_made_last_is_closed_first(self):
        target = StreamHandler(self.yard, "out")
        for message in "abc":
            self.memory(target, message)
        self.yard.shutdown()
        self.assertEqual(self.yard.text("out"), "c\nb\na\n")

    def test_a_target_that_was_made_ahead_is_not_closed_yet(self):
        for make in (
            lambda: FileHandler(self.yard, "log", "w"), lambda: FileHandler(self.yard, "log", "w", True),
            lambda: RotatingFileHandler(self.yard, "log", "w"), lambda: TimedRotatingFileHandler(self.yard, "log"),
        ):
            self.setUp()
            self.memory(make(), "m")
            self.yard.shutdown()
            self.assertEqual(self.yard.files(), {"log": "m\n"})

    def test_a_target_that_was_made_behind_is_closed_already(self):
        for make, told in (
            (lambda: FileHandler(self.yard, "log", "w"), ""), (lambda: FileHandler(self.yard, "log", "w", True), "before\n"),
            (lambda: FileHandler(self.yard, "log"), "before\nm\n"), (lambda: RotatingFileHandler(self.yard, "log", "w"), "m\n"),
            (lambda: RotatingFileHandler(self.yard, "log", "w", 9, 2), "m\n"), (lambda: TimedRotatingFileHandler(self.yard, "log"), "before\nm\n"),
        ):
            self.setUp()
            self.yard.put_file("log", "before\n")
            memory = self.memory(None, "m")
            memory.setTarget(make())
            self.yard.shutdown()
            self.assertEqual((self.yard.files()["log"], memory.buffer()), (told, []))

    def test_a_row_of_memories_made_from_its_end(self):
        target = keeper(self.yard)
        third = self.memory(target, "c")
        second = self.memory(third, "b")
        first = self.memory(second, "a")
        self.yard.shutdown()
        self.assertEqual([record.msg for record in target.records], ["c", "b", "a"])
        self.assertEqual([handler.buffer() for handler in (first, second, third)], [[], [], []])

    def test_a_row_of_memories_made_from_its_beginning(self):
        first, second, third = [self.memory(None, message) for message in "abc"]
        target = keeper(self.yard)
        third.setTarget(target)
        second.setTarget(third)
        first.setTarget(second)
        self.yard.shutdown()
        # Each one is closed, and has no target any more, when the one ahead of it hands its records on.
        self.assertEqual([record.msg for record in target.records], ["c"])
        self.assertEqual([[record.msg for record in handler.buffer()] for handler in (first, second, third)], [[], ["a"], ["b"]])

    def test_without_flush_on_close(self):
        target = keeper(self.yard)
        memory = self.memory(target, "m", False)
        self.yard.shutdown()
        memory.flush()
        self.assertEqual((target.records, len(memory.buffer())), ([], 1))

    def test_one_that_was_closed_already_is_not_flushed(self):
        target = keeper(self.yard)
        memory = self.memory(None, "m")
        memory.close()
        memory.setTarget(target)
        self.yard.shutdown()
        self.yard.shutdown()
        self.assertEqual((target.records, len(memory.buffer())), ([], 1))
        memory.close()
        self.assertEqual((len(target.records), memory.buffer()), (1, []))

    def test_failures_on_the_way(self):
        self.memory(StreamHandler(self.yard, "out"), "m")
        memory = MemoryHandler(self.yard, 100, 40, StreamHandler(self.yard, "out"))
        memory.handle(self.yard.make_record("bad", 20, "{", (1,)))
        self.assertIsNone(self.yard.shutdown())
        self.assertEqual((self.yard.text("out"), self.yard.failures()), ("m\n", [("bad", "message")]))

    def test_queues_keep_their_records(self):
        queue = Queue()
        target = keeper(self.yard)
        self.memory(QueueHandler(self.yard, queue), "m")
        self.yard.shutdown()
        self.assertEqual((len(queue), QueueListener(queue, [target]).run()), (1, 1))
