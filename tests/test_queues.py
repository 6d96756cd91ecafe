"""[28]: Queue, QueueHandler, QueueListener."""

import unittest

from recordyard.filters import Filter
from recordyard.formatters import Formatter
from recordyard.handlers import StreamHandler
from recordyard.queues import Queue, QueueHandler, QueueListener
from recordyard.records import LogRecord
from recordyard.yards import Yard
from tests.helpers import Asked, keeper


def parts(record):
    """All that a record tells."""
    return record.name, record.levelno, record.levelname, record.msg, record.given, record.created, record.extra


class WithYard(unittest.TestCase):
    def setUp(self):
        self.yard = Yard(1234)
        self.queue = Queue()

    def record(self, msg="m", args=(), level=20, extra=None):
        return self.yard.make_record("a.b", level, msg, args, extra)

    def fill(self, many, level=20):
        """The records with which the queue is filled."""
        records = [self.record("m{}", (number,), level) for number in range(many)]
        for record in records:
            self.queue.put(record)
        return records


class Queues(WithYard):
    def test_the_eldest_one_leaves_first(self):
        self.assertEqual(len(self.queue), 0)
        self.assertIsNone(self.queue.get())
        one, two, three = [self.record() for _ in range(3)]
        told = []
        for step in (one, two, None, three, one, None, None, None, None, two, None):
            if step is None:
                told.append(self.queue.get())
            else:
                self.assertIsNone(self.queue.put(record=step))
        self.assertEqual(told, [one, two, three, one, None, two])
        self.assertEqual(len(self.queue), 0)

    def test_length(self):
        for many in range(1, 4):
            self.queue.put(self.record())
            self.assertEqual(len(self.queue), many)
        self.queue.get()
        self.assertEqual((len(self.queue), len(Queue())), (2, 0))

    def test_very_many(self):
        records = self.fill(20000)
        self.assertEqual([self.queue.get() for _ in records], records)


class Handlers(WithYard):
    def setUp(self):
        WithYard.setUp(self)
        self.handler = QueueHandler(self.yard, self.queue)

    def test_attributes(self):
        self.assertIs(self.handler.queue, self.queue)
        self.assertIsNone(self.handler.listener)
        self.assertIs(QueueHandler(queue=self.queue, yard=self.yard).queue, self.queue)

    def test_the_prepared_copy(self):
        record = self.record("{}-{}", (1, [2]), 40, {"k": {"in": [1]}})
        before = parts(record)
        self.yard.advance(100)
        self.yard.add_level_name(40, "TOLD")
        self.assertIs(self.handler.handle(record), True)
        copy = self.queue.get()
        self.assertIsInstance(copy, LogRecord)
        self.assertIsNot(copy, record)
        self.assertEqual(parts(copy), ("a.b", 40, "ERROR", "1-[2]", (), 1234, {"k": {"in": [1]}}))
        self.assertEqual((copy.message(), copy.field("message"), copy.field("args")), ("1-[2]", "1-[2]", ()))
        self.assertEqual(parts(record), before)
        self.assertEqual(record.message(), "1-[2]")
        self.assertIsNot(copy.extra["k"], record.extra["k"])

    def test_the_formatter_makes_the_text_without_the_terminator(self):
        self.handler.setFormatter(Formatter("{levelname} {message} {k}"))
        self.handler.setTerminator("!")
        self.handler.handle(self.record("{}", ("{}",), 20, {"k": 1}))
        copy = self.queue.get()
        self.assertEqual((copy.msg, copy.given, copy.message()), ("INFO {} 1", (), "INFO {} 1"))

    def test_a_copy_even_where_nothing_changes(self):
        record = self.record()
        for _ in range(2):
            self.handler.handle(record)
        one, two = self.queue.get(), self.queue.get()
        self.assertEqual((parts(one), parts(two)), (parts(record), parts(record)))
        self.assertEqual([one == record, one == two], [False, False])

    def test_a_record_that_cannot_be_formatted(self):
        self.assertIs(self.handler.handle(self.record("{", (1,))), True)
        self.handler.setFormatter(Formatter("{k}"))
        self.assertIs(self.handler.handle(self.record()), True)
        self.assertEqual((len(self.queue), self.yard.failures()), (0, [("a.b", "message"), ("a.b", "field")]))

    def test_filters(self):
        other = self.record("other")
        self.handler.addFilter(Asked(other))
        self.handler.handle(self.record())
        self.assertEqual(self.queue.get().msg, "other")
        self.handler.addFilter(Filter("b"))
        self.assertIs(self.handler.handle(self.record()), False)
        self.assertEqual(len(self.queue), 0)

    def test_closed_it_is_used_further(self):
        self.handler.setName("x")
        self.handler.close()
        self.handler.flush()
        self.handler.handle(self.record())
        self.assertEqual((len(self.queue), self.yard.getHandlerNames()), (1, []))

    def test_two_handlers_on_one_queue(self):
        other = QueueHandler(self.yard, self.queue)
        for handler, msg in ((self.handler, "a"), (other, "b"), (self.handler, "c")):
            handler.handle(self.record(msg))
        self.assertEqual([self.queue.get().msg for _ in range(3)], ["a", "b", "c"])


class Listeners(WithYard):
    def setUp(self):
        WithYard.setUp(self)
        self.keeper = keeper(self.yard)

    def test_how_many(self):
        for there, many, took in (
            (3, None, 3), (0, None, 0), (3, 0, 0), (0, 0, 0), (3, 1, 1), (3, 2, 2), (3, 3, 3), (3, 4, 3), (0, 4, 0), (3, 10 ** 18, 3),
        ):
            self.setUp()
            records = self.fill(there)
            listener = QueueListener(self.queue, [self.keeper])
            self.assertEqual(listener.run() if many is None else listener.run(many), took)
            self.assertEqual((self.keeper.records, len(self.queue)), (records[:took], there - took))
            self.assertEqual(listener.run(many=None), there - took)
            self.assertEqual(self.keeper.records, records)
            self.assertEqual(listener.run(), 0)

    def test_handlers_in_order_and_one_twice(self):
        kept = []
        one, two = keeper(self.yard, 0, kept, "one"), keeper(self.yard, 0, kept, "two")
        self.fill(2)
        self.assertEqual(QueueListener(self.queue, [two, one, two]).run(), 2)
        self.assertEqual(kept, ["two", "one", "two"] * 2)

    def test_without_handlers(self):
        self.fill(2)
        for handlers in ([], ()):
            self.assertEqual(QueueListener(self.queue, handlers).run(1), 1)
        self.assertEqual(len(self.queue), 0)

    def test_levels(self):
        low, high = keeper(self.yard, 20), keeper(self.yard, 21)
        for respect, told in ((False, (2, 2)), (True, (1, 0))):
            records = self.fill(1, 19) + self.fill(1, 20)
            for handler in (low, high):
                handler.records.clear()
            self.assertEqual(QueueListener(self.queue, (low, high), respect).run(), 2)
            self.assertEqual((len(low.records), len(high.records)), told)
            self.assertIs(low.records[-1], records[-1])

    def test_levels_as_they_stand_at_that_moment(self):
        listener = QueueListener(respect_handler_level=True, handlers=[self.keeper], queue=self.queue)
        records = self.fill(4)
        for level in (20, 21, 0, "WARNING"):
            self.keeper.setLevel(level)
            self.assertEqual(listener.run(1), 1)
        self.assertEqual(self.keeper.records, [records[0], records[2]])

    def test_without_respect_as_it_is_by_itself(self):
        self.keeper.setLevel(50)
        self.fill(1)
        QueueListener(self.queue, [self.keeper]).run()
        self.assertEqual(len(self.keeper.records), 1)

    def test_a_list_that_grows_behind_the_making(self):
        handlers = [self.keeper]
        listener = QueueListener(self.queue, handlers)
        other = keeper(self.yard)
        handlers.append(other)
        self.fill(1)
        listener.run()
        handlers.clear()
        self.fill(1)
        listener.run()
        self.assertEqual((len(self.keeper.records), other.records), (2, []))

    def test_filters_of_its_handlers_count(self):
        other = keeper(self.yard)
        self.keeper.filters.insert(0, Filter("b"))
        records = self.fill(1)
        QueueListener(self.queue, [self.keeper, other]).run()
        self.assertEqual((self.keeper.records, other.records), ([], records))

    def test_the_whole_way(self):
        handler = QueueHandler(self.yard, self.queue)
        handler.setFormatter(Formatter("<{message}>"))
        out = StreamHandler(self.yard, "out")
        out.setFormatter(Formatter("{created} {name} {levelname} {message}"))
        logger = self.yard.getLogger("x")
        logger.addHandler(handler)
        logger.error("{} of {}", (1, 2))
        self.yard.advance(1000)
        logger.error("{", (1,))
        logger.critical("{}")
        self.assertEqual((self.yard.text("out"), len(self.queue)), ("", 2))
        self.assertEqual(QueueListener(self.queue, [out]).run(), 2)
        self.assertEqual(self.yard.text("out"), "1234 x ERROR <1 of 2>\n2234 x CRITICAL <{}>\n")
        self.assertEqual(self.yard.failures(), [("x", "message")])

    def test_one_queue_behind_another(self):
        second = Queue()
        self.fill(2)
        self.assertEqual(QueueListener(self.queue, [QueueHandler(self.yard, second)]).run(), 2)
        self.assertEqual(QueueListener(second, [self.keeper]).run(), 2)
        self.assertEqual([record.msg for record in self.keeper.records], ["m0", "m1"])

    def test_what_fails_at_its_handlers(self):
        out = StreamHandler(self.yard, "out")
        self.queue.put(self.record("{", (1,)))
        self.queue.put(self.record())
        self.assertEqual(QueueListener(self.queue, [out]).run(), 2)
        self.assertEqual((self.yard.text("out"), self.yard.failures()), ("m\n", [("a.b", "message")]))
