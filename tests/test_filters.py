"""[12], [13]: filters, and the lists of them that loggers have."""

import unittest

from recordyard.filters import Filter
from recordyard.yards import Yard
from tests.helpers import Asked, objects


def record_of(name):
    return Yard().make_record(name, 20, "m")


class Filters(unittest.TestCase):
    def test_names(self):
        for name, passed, stopped in (
            ("", ("", "root", "a", "a.b", ".", "a b"), ()),
            ("a", ("a", "a.b", "a.b.c", "a."), ("", "ab", "A", "b", "b.a", "root", "a b", " a", "a_", "a-b", ".a")),
            ("a.b", ("a.b", "a.b.c", "a.b.c.d"), ("a", "a.bc", "ab", "a.c", "a.", "b", "x.a.b", "axb")),
            ("root", ("root", "root.a"), ("a", "", "rooted", "roo")),
        ):
            one = Filter(name)
            self.assertEqual(one.name, name)
            for told in passed:
                self.assertIs(one.passes(record_of(told)), True, (name, told))
            for told in stopped:
                self.assertIs(one.passes(record_of(told)), False, (name, told))

    def test_parameters(self):
        self.assertEqual(Filter().name, "")
        self.assertEqual(Filter(name="a").name, "a")
        self.assertIs(Filter(name="a").passes(record=record_of("a")), True)

    def test_filters_are_equal_only_to_themselves(self):
        self.assertNotEqual(Filter("a"), Filter("a"))


class Lists(unittest.TestCase):
    def setUp(self):
        self.yard = Yard()
        self.logger = self.yard.getLogger("a")
        self.record = self.yard.make_record("a", 20, "m")

    def put(self, *filters):
        for one in filters:
            self.assertIsNone(self.logger.addFilter(one))

    def test_they_stand_in_the_order_in_which_they_were_put(self):
        filters = [Filter("b"), Asked(True), Filter("a")]
        self.put(*filters)
        self.assertEqual(self.logger.filters, filters)

    def test_a_filter_that_is_put_twice_stands_there_once(self):
        one, two, three = Filter("a"), Asked(True), Asked(True)
        self.put(one, two, one, three, two)
        self.assertEqual(self.logger.filters, [one, two, three])

    def test_filters_of_equal_names_are_different_ones(self):
        one, other = Filter("a"), Filter("a")
        self.put(one, other)
        self.assertEqual(self.logger.filters, [one, other])
        self.logger.removeFilter(Filter("a"))
        self.assertEqual(self.logger.filters, [one, other])
        self.logger.removeFilter(other)
        self.assertEqual(self.logger.filters, [one])

    def test_taking_out(self):
        one, two = Filter("a"), Asked(True)
        self.assertIsNone(self.logger.removeFilter(one))
        self.put(one, two)
        self.assertIsNone(self.logger.removeFilter(one=one))
        self.logger.removeFilter(one)
        self.assertEqual(self.logger.filters, [two])
        self.put(one)
        self.assertEqual(self.logger.filters, [two, one])
        self.logger.addFilter(one=Filter("x"))
        self.assertEqual(len(self.logger.filters), 3)

    def test_without_filters_the_record_itself(self):
        self.assertIs(self.logger.filtered(record=self.record), self.record)

    def test_filters_by_name(self):
        for names, passes in (((), True), (("a",), True), (("b",), False), (("a", "b"), False), (("b", "a"), False), (("a", ""), True)):
            logger = self.yard.getLogger("x_" + "_".join(names))
            for name in names:
                logger.addFilter(Filter(name))
            self.assertIs(logger.filtered(self.record), self.record if passes else None)

    def test_functions_that_tell_something_true_or_not(self):
        for told in objects():
            logger = Yard().getLogger("a")
            logger.addFilter(Asked(told))
            self.assertIs(logger.filtered(self.record), self.record if told else None)

    def test_plain_functions(self):
        self.put(lambda record: record.levelno >= 20)
        self.assertIs(self.logger.filtered(self.record), self.record)
        self.assertIsNone(self.logger.filtered(self.yard.make_record("a", 19, "m")))

    def test_a_record_that_is_told_takes_the_place(self):
        other = self.yard.make_record("b", 5, "other")
        first, second = Asked(other), Asked(True)
        self.put(first, second)
        self.assertIs(self.logger.filtered(self.record), other)
        self.assertEqual((first.records, second.records), ([self.record], [other]))

    def test_filters_look_at_the_record_that_took_the_place(self):
        other = self.yard.make_record("b", 5, "other")
        self.put(Asked(other), Filter("a"))
        self.assertIsNone(self.logger.filtered(self.record))
        self.logger.removeFilter(self.logger.filters[1])
        self.put(Filter("b"))
        self.assertIs(self.logger.filtered(self.record), other)

    def test_each_is_asked_once_up_to_the_first_that_does_not_let_it_by(self):
        asked = [Asked(1), Asked("yes"), Asked(0), Asked(True)]
        self.put(*asked)
        self.assertIsNone(self.logger.filtered(self.record))
        self.assertEqual([len(one.records) for one in asked], [1, 1, 1, 0])
        self.assertIsNone(self.logger.filtered(self.record))
        self.assertEqual([len(one.records) for one in asked], [2, 2, 2, 0])

    def test_behind_a_filter_by_name_that_stops_it_nobody_is_asked(self):
        asked = Asked(True)
        self.put(Filter("b"), asked)
        self.assertIsNone(self.logger.filtered(self.record))
        self.assertEqual(asked.records, [])
