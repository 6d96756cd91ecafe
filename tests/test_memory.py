"""[27]: MemoryHandler."""

import random
import unittest

from recordyard.filters import Filter
from recordyard.formatters import Formatter
from recordyard.handlers import StreamHandler
from recordyard.memory import MemoryHandler
from recordyard.yards import Yard
from tests.helpers import Asked, keeper


class WithYard(unittest.TestCase):
    def setUp(self):
        self.yard = Yard()
        self.target = keeper(self.yard)

    def record(self, level=20, msg="m", args=()):
        return self.yard.make_record("a", level, msg, args)

    def tell(self, handler, *levels):
        """The records of these levels that a handler handles."""
        records = [self.record(level) for level in levels]
        for record in records:
            self.assertIs(handler.handle(record), True)
        return records


class Keeping(WithYard):
    def test_below_the_capacity_records_are_kept(self):
        handler = MemoryHandler(self.yard, 4, 40, self.target)
        records = self.tell(handler, 10, 39, -5)
        self.assertEqual((handler.buffer(), self.target.records), (records, []))
        records += self.tell(handler, 20)
        self.assertEqual((handler.buffer(), self.target.records), ([], records))
        more = self.tell(handler, 20)
        self.assertEqual((handler.buffer(), self.target.records), (more, records))

    def test_the_very_same_records(self):
        handler = MemoryHandler(self.yard, 3, 40, self.target)
        one = self.record()
        for _ in range(2):
            handler.handle(one)
        self.assertIs(handler.buffer()[0], one)
        handler.flush()
        self.assertIs(self.target.records[1], one)

    def test_each_list_is_a_new_one(self):
        handler = MemoryHandler(self.yard, 4)
        self.assertEqual(handler.buffer(), [])
        records = self.tell(handler, 20, 20)
        told = handler.buffer()
        told.clear()
        handler.buffer().append(None)
        self.assertEqual(handler.buffer(), records)
        self.tell(handler, 20)
        self.assertEqual(told, [])

    def test_small_capacities(self):
        for capacity in (0, 1):
            handler = MemoryHandler(self.yard, capacity, 40, self.target)
            for record in self.tell(handler, 10, 20):
                self.assertIn(record, self.target.records)
            self.assertEqual(handler.buffer(), [])

    def test_at_below_and_above_the_level(self):
        for level, flushed in ((39, False), (40, True), (41, True), (-1, False)):
            self.target.records.clear()
            handler = MemoryHandler(self.yard, 100, 40, self.target)
            records = self.tell(handler, 10, level)
            self.assertEqual((handler.buffer(), self.target.records), ([], records) if flushed else (records, []))

    def test_other_levels(self):
        handler = MemoryHandler(self.yard, 100, -3, self.target)
        records = self.tell(handler, -4)
        self.assertEqual(handler.buffer(), records)
        records += self.tell(handler, -3)
        self.assertEqual((handler.buffer(), self.target.records), ([], records))
        handler = MemoryHandler(self.yard, 100, 10 ** 18, self.target)
        self.assertEqual(self.tell(handler, 50), handler.buffer())

    def test_parameters(self):
        handler = MemoryHandler(flushOnClose=False, target=self.target, flushLevel=20, capacity=2, yard=self.yard)
        self.tell(handler, 20)
        self.assertEqual(len(self.target.records), 1)
        self.tell(handler, 10)
        handler.close()
        self.assertEqual((len(self.target.records), len(handler.buffer())), (1, 1))
        self.assertEqual(MemoryHandler(self.yard, 5).buffer(), [])

    def test_what_cannot_be_formatted_is_kept_all_the_same(self):
        handler = MemoryHandler(self.yard, 10, 40, StreamHandler(self.yard, "out"))
        handler.setFormatter(Formatter("{k}"))
        bad = self.record(20, "{", (1,))
        self.assertIs(handler.handle(bad), True)
        handler.handle(self.record())
        self.assertEqual((handler.buffer()[0], self.yard.failures()), (bad, []))
        handler.flush()
        self.assertEqual((self.yard.text("out"), self.yard.failures(), handler.buffer()), ("m\n", [("a", "message")], []))

    def test_its_own_filters_and_level(self):
        handler = MemoryHandler(self.yard, 10, 40, self.target)
        handler.setLevel(50)
        other = self.record(30, "other")
        handler.addFilter(Asked(other))
        handler.handle(self.record(50))
        self.assertEqual(handler.buffer(), [other])
        handler.addFilter(Filter("b"))
        self.assertIs(handler.handle(self.record(50)), False)
        self.assertEqual(handler.buffer(), [other])


class Asking(WithYard):
    def test_of_a_record_that_is_not_kept(self):
        handler = MemoryHandler(self.yard, 2)
        told = []
        for _ in range(4):
            told.append((handler.shouldFlush(self.record(39)), handler.shouldFlush(record=self.record(40))))
            self.tell(handler, 10)
        self.assertEqual(told, [(False, True), (False, True), (True, True), (True, True)])
        self.assertEqual(len(handler.buffer()), 4)
        self.assertIs(MemoryHandler(self.yard, 0).shouldFlush(self.record(1)), True)


class Targets(WithYard):
    def test_none(self):
        handler = MemoryHandler(self.yard, 2)
        records = self.tell(handler, 10, 50, 20)
        self.assertIsNone(handler.flush())
        self.assertEqual(handler.buffer(), records)

    def test_set_later_changed_and_taken_away(self):
        other = keeper(self.yard)
        handler = MemoryHandler(self.yard, 100)
        records = self.tell(handler, 50, 10)
        self.assertIsNone(handler.setTarget(self.target))
        self.assertEqual((handler.buffer(), self.target.records), (records, []))
        records += self.tell(handler, 40)
        self.assertEqual((handler.buffer(), self.target.records), ([], records))
        handler.setTarget(target=other)
        more = self.tell(handler, 40)
        self.assertEqual((self.target.records, other.records), (records, more))
        handler.setTarget(None)
        last = self.tell(handler, 40)
        self.assertEqual((handler.buffer(), self.target.records, other.records), (last, records, more))

    def test_its_filters_count_and_its_level_does_not(self):
        handler = MemoryHandler(self.yard, 100, 40, self.target)
        self.target.setLevel(50)
        passed = self.tell(handler, 10)
        handler.handle(self.yard.make_record("b", 20, "m"))
        self.target.filters.insert(0, Filter("a"))
        handler.flush()
        self.assertEqual((handler.buffer(), self.target.records), ([], passed))

    def test_flushing_twice(self):
        handler = MemoryHandler(self.yard, 100, 40, self.target)
        records = self.tell(handler, 10, 20)
        for _ in range(2):
            self.assertIsNone(handler.flush())
            self.assertEqual((handler.buffer(), self.target.records), ([], records))

    def test_memories_one_behind_another(self):
        second = MemoryHandler(self.yard, 4, 40, self.target)
        first = MemoryHandler(self.yard, 3, 30, second)
        records = self.tell(first, 10, 10)
        self.assertEqual((first.buffer(), second.buffer()), (records, []))
        records += self.tell(first, 30)
        self.assertEqual((first.buffer(), second.buffer(), self.target.records), ([], records, []))
        records += self.tell(first, 10, 10, 10)
        self.assertEqual((first.buffer(), second.buffer(), self.target.records), ([], records[4:], records[:4]))
        records += self.tell(first, 10)
        first.close()
        self.assertEqual((first.buffer(), second.buffer(), self.target.records), ([], records[4:], records[:4]))
        second.close()
        self.assertEqual((second.buffer(), self.target.records), ([], records))

    def test_a_long_row_of_memories(self):
        last = self.target
        for _ in range(45):
            last = MemoryHandler(self.yard, 1, 40, last)
        records = self.tell(last, 10)
        self.assertEqual(self.target.records, records)

    def test_two_memories_with_one_target(self):
        one, two = MemoryHandler(self.yard, 9, 40, self.target), MemoryHandler(self.yard, 9, 40, self.target)
        first, second = self.tell(one, 10), self.tell(two, 10)
        two.flush()
        one.flush()
        self.assertEqual(self.target.records, second + first)

    def test_as_a_handler_of_loggers(self):
        target = StreamHandler(self.yard, "out")
        target.setFormatter(Formatter("{created} {message}"))
        self.yard.root.addHandler(MemoryHandler(self.yard, 10, 40, target))
        self.yard.root.warning("a{}", (1,))
        self.yard.advance(5)
        self.assertEqual(self.yard.text("out"), "")
        self.yard.root.error("b")
        self.assertEqual(self.yard.text("out"), "0 a1\n5 b\n")


class Closing(WithYard):
    def test_with_flush_on_close(self):
        handler = MemoryHandler(self.yard, 100, 40, self.target)
        records = self.tell(handler, 10, 20)
        self.assertIsNone(handler.close())
        self.assertEqual((handler.buffer(), self.target.records), ([], records))
        self.assertIsNone(handler.target)

    def test_without_it(self):
        handler = MemoryHandler(self.yard, 100, 40, self.target, False)
        records = self.tell(handler, 10, 20)
        handler.close()
        self.assertEqual((handler.buffer(), self.target.records), (records, []))
        handler.flush()
        self.assertEqual((handler.buffer(), self.target.records), (records, []))
        handler.setTarget(self.target)
        handler.flush()
        self.assertEqual((handler.buffer(), self.target.records), ([], records))

    def test_used_further_and_closed_again(self):
        for flushes in (True, False):
            self.target.records.clear()
            handler = MemoryHandler(self.yard, 3, 40, self.target, flushes)
            handler.close()
            records = self.tell(handler, 50, 10, 10, 10)
            handler.close()
            self.assertEqual((handler.buffer(), self.target.records), (records, []))
            handler.setTarget(self.target)
            handler.close()
            self.assertEqual((handler.buffer(), self.target.records), ([], records) if flushes else (records, []))
            self.assertIsNone(handler.target)

    def test_without_a_target(self):
        handler = MemoryHandler(self.yard, 100)
        records = self.tell(handler, 10)
        handler.close()
        self.assertEqual(handler.buffer(), records)

    def test_the_name_is_free_then(self):
        handler = MemoryHandler(self.yard, 100)
        handler.setName("x")
        handler.close()
        self.assertEqual((self.yard.getHandlerNames(), handler.name), ([], "x"))


class Runs(WithYard):
    def test_many_runs_against_a_model(self):
        dice = random.Random(27)
        for _ in range(300):
            capacity, level, flushes = dice.randrange(5), dice.choice((10, 30, 60)), dice.random() < 0.5
            self.target.records.clear()
            target = dice.choice((self.target, None))
            handler = MemoryHandler(self.yard, capacity, level, target, flushes)
            kept, given = [], []
            for _ in range(20):
                word = dice.choice(("tell",) * 5 + ("flush", "close", "set", "none"))
                flush = word == "flush" or (word == "close" and flushes)
                if word == "tell":
                    kept += self.tell(handler, dice.choice((5, 10, 30, 50)))
                    flush = len(kept) >= capacity or kept[-1].levelno >= level
                elif word in ("set", "none"):
                    target = self.target if word == "set" else None
                    handler.setTarget(target)
                else:
                    getattr(handler, word)()
                if flush and target is not None:
                    given, kept = given + kept, []
                if word == "close":
                    target = None
                self.assertEqual((handler.buffer(), self.target.records), (kept, given))
