"""[20]: adapters."""

import unittest

from recordyard.adapters import LoggerAdapter
from recordyard.errors import BadExtra, BadLevel
from recordyard.yards import Yard
from tests.helpers import keeper

FIVE = (("debug", 10), ("info", 20), ("warning", 30), ("error", 40), ("critical", 50))


class Adapters(unittest.TestCase):
    def setUp(self):
        self.yard = Yard()
        self.logger = self.yard.getLogger("a.b")
        self.logger.setLevel(1)
        self.keeper = keeper(self.yard)
        self.logger.addHandler(self.keeper)

    def told(self, adapter, *call):
        """The extra of the record that a call of log makes."""
        self.assertIsNone(adapter.log(20, "m", (), *call))
        return self.keeper.records.pop().extra

    def test_without_merge_extra_its_own_alone(self):
        for adapter in (LoggerAdapter(self.logger, {"k": 1}), LoggerAdapter(self.logger, {"k": 1}, False)):
            for call in ((), (None,), ({},), ({"k": 2},), ({"x": 2},)):
                self.assertEqual(self.told(adapter, *call), {"k": 1})

    def test_without_an_extra_there_is_none_whatever_the_call_passes(self):
        for adapter in (LoggerAdapter(self.logger), LoggerAdapter(self.logger, None), LoggerAdapter(self.logger, {})):
            for call in ((), (None,), ({},), ({"k": 2},)):
                self.assertEqual(self.told(adapter, *call), {})

    def test_with_merge_extra_that_of_the_call_over_its_own(self):
        adapter = LoggerAdapter(merge_extra=True, extra={"k": 1, "x": 2}, logger=self.logger)
        for call, extra in (
            ((), {"k": 1, "x": 2}), ((None,), {"k": 1, "x": 2}), (({},), {"k": 1, "x": 2}), (({"k": 3},), {"k": 3, "x": 2}),
            (({"y": 3},), {"k": 1, "x": 2, "y": 3}), (({"x": None, "k": 0},), {"k": 0, "x": None}), ((), {"k": 1, "x": 2}),
        ):
            self.assertEqual(self.told(adapter, *call), extra)

    def test_with_merge_extra_and_none_of_its_own(self):
        adapter = LoggerAdapter(self.logger, None, True)
        for call, extra in (((), {}), ((None,), {}), (({"k": 3},), {"k": 3}), ((), {})):
            self.assertEqual(self.told(adapter, *call), extra)

    def test_one_over_another(self):
        for inner_merges, outer_merges, extra in (
            (False, False, {"k": 1, "i": 1}), (False, True, {"k": 1, "i": 1}), (True, False, {"k": 2, "i": 1, "o": 2}),
            (True, True, {"k": 3, "i": 1, "o": 2, "c": 3}),
        ):
            inner = LoggerAdapter(self.logger, {"k": 1, "i": 1}, inner_merges)
            outer = LoggerAdapter(inner, {"k": 2, "o": 2}, outer_merges)
            self.assertEqual(self.told(outer, {"k": 3, "c": 3}), extra)

    def test_one_over_another_without_extras(self):
        for inner_merges, outer_merges, extra in ((False, False, {}), (False, True, {}), (True, False, {}), (True, True, {"c": 3})):
            outer = LoggerAdapter(LoggerAdapter(self.logger, None, inner_merges), None, outer_merges)
            self.assertEqual(self.told(outer, {"c": 3}), extra)
            self.assertEqual(self.told(outer, None), {})

    def test_log_and_the_five_methods(self):
        self.yard.advance(3)
        adapter = LoggerAdapter(self.logger, {"k": 1}, True)
        for word, level in FIVE:
            self.assertIsNone(getattr(adapter, word)("{}", (word,), {"x": 2}))
            getattr(adapter, word)(extra={"x": 2}, args=[word], msg="{}")
            adapter.log(level, "{}", (word,), {"x": 2})
            adapter.log(extra={"x": 2}, args=[word], msg="{}", level=level)
            for record in self.keeper.records:
                told = (record.name, record.levelno, record.message(), record.extra, record.created)
                self.assertEqual(told, ("a.b", level, word, {"k": 1, "x": 2}, 3))
            self.assertEqual(len(self.keeper.records), 4)
            del self.keeper.records[:]
            getattr(adapter, word)("m")
            record = self.keeper.records.pop()
            self.assertEqual((record.levelno, record.given, record.extra), (level, (), {"k": 1}))
            plain = LoggerAdapter(self.logger, {"k": 1})
            getattr(plain, word)("m", (), {"x": 2})
            self.assertEqual(self.keeper.records.pop().extra, {"k": 1})

    def test_levels_hold_as_for_the_logger(self):
        adapter = LoggerAdapter(LoggerAdapter(self.logger))
        self.logger.setLevel(20)
        adapter.debug("m")
        adapter.log(19, "m")
        adapter.info("m")
        self.assertEqual(len(self.keeper.records), 1)

    def test_errors_are_those_of_the_logger(self):
        adapter = LoggerAdapter(LoggerAdapter(self.logger, {"k": 1}, True), {"name": 1}, True)
        for level in ("INFO", True, None, [20]):
            with self.assertRaises(BadLevel) as caught:
                adapter.log(level, "m")
            self.assertIs(caught.exception.level, level)
        with self.assertRaises(BadExtra) as caught:
            adapter.info("m", (), {"msecs": 1})
        self.assertEqual(caught.exception.name, "msecs")
        self.logger.setLevel(50)
        adapter.info("m", (), {"msecs": 1})
        self.assertEqual(self.keeper.records, [])
        LoggerAdapter(self.logger).critical("m", (), {"name": 1})
        self.assertEqual(len(self.keeper.records), 1)

    def test_the_rest_is_the_loggers(self):
        for adapter in (LoggerAdapter(self.logger), LoggerAdapter(LoggerAdapter(self.logger))):
            self.assertEqual(adapter.name, "a.b")
            self.assertIsNone(adapter.setLevel("INFO"))
            self.assertEqual((self.logger.level, adapter.getEffectiveLevel()), (20, 20))
            self.assertEqual([adapter.isEnabledFor(level) for level in (19, 20)], [False, True])
            self.assertIs(adapter.isEnabledFor(level=20), True)
            adapter.setLevel(level=0)
            self.assertEqual((self.logger.level, adapter.getEffectiveLevel()), (0, 30))
            self.assertIs(adapter.hasHandlers(), True)
            self.logger.removeHandler(self.keeper)
            self.assertIs(adapter.hasHandlers(), False)
            self.logger.addHandler(self.keeper)
            with self.assertRaises(BadLevel):
                adapter.setLevel("none")

    def test_the_name_of_the_root(self):
        self.assertEqual(LoggerAdapter(self.yard.root).name, "root")

    def test_what_is_passed_is_not_changed_and_later_changes_change_nothing(self):
        own, call = {"k": [1, {"in": [2]}]}, {"x": [3]}
        adapter = LoggerAdapter(self.logger, own, True)
        adapter.info("m", (), call)
        self.assertEqual((own, call), ({"k": [1, {"in": [2]}]}, {"x": [3]}))
        own["k"][1]["in"].append(9)
        own["new"] = 9
        call["x"].append(9)
        self.assertEqual(self.keeper.records[0].extra, {"k": [1, {"in": [2]}], "x": [3]})
        self.assertEqual(self.told(adapter), {"k": [1, {"in": [2]}]})
