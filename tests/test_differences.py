"""[38]: the least record that parts two yards."""

import unittest

from recordyard.copies import copied
from recordyard.differences import alike, difference
from recordyard.filters import Filter
from recordyard.formatters import Formatter
from recordyard.handlers import NullHandler
from recordyard.judging import outcome
from recordyard.orders import next_word
from recordyard.yards import Yard
from tests.helpers import standing
from tests.small import RECORDS, altered_at_random, order, yard_at_random
from tests.test_judging import lines


def yard_with(*handlers, level=20):
    """A yard whose root has this level and handlers, each told as the arguments of lines."""
    yard = Yard()
    yard.root.setLevel(level)
    for handler in handlers:
        yard.root.addHandler(lines(yard, **handler))
    return yard


def writing(*formats, **more):
    """A yard whose root writes these formats, without terminators, to one stream."""
    return yard_with(*[{"fmt": fmt, "terminator": ""} for fmt in formats], **more)


class Differences(unittest.TestCase):
    step = 7

    def check(self, one, other, record):
        before = standing(one), standing(other)
        for first, second in ((one, other), (other, one)):
            told = difference(first, second)
            self.assertEqual(told, record)
            self.assertEqual(difference(other=first, one=second), record)
            self.assertTrue(told is None or type(told) is tuple)
            self.assertIs(alike(first, second), record is None)
            self.assertIs(alike(other=first, one=second), record is None)
        if record is not None:
            self.assertNotEqual(outcome(one, record), outcome(other, record))
        for less in RECORDS[::self.step]:
            if record is None or order(less) < order(record):
                self.assertEqual(outcome(one, less), outcome(other, less), less)
        self.assertEqual((standing(one), standing(other)), before)

    def altered(self, yard, change, record):
        """What a change of a yard comes to, which is made at a copy."""
        other = copied(yard)
        change(other)
        self.check(yard, other, record)


class OneThing(Differences):
    def setUp(self):
        self.yard = yard_with({"filters": ["a"]}, {"stream": "all", "fmt": "{levelname} {message}"})
        self.yard.getLogger("a.b").addHandler(lines(self.yard, "b", level=25))
        self.yard.getLogger("a.b").addFilter(Filter("a"))
        self.yard.getLogger("c").setLevel(40)

    def test_the_example(self):
        self.check(yard_with({"fmt": "{name} {message}"}), yard_with({"fmt": "root {message}"}), ("a", 20, ""))

    def test_nothing(self):
        self.check(self.yard, self.yard, None)
        self.altered(self.yard, lambda yard: None, None)
        self.check(Yard(), Yard(5000), None)

    def test_levels_of_loggers(self):
        self.altered(self.yard, lambda yard: yard.root.setLevel(21), ("", 20, ""))
        self.altered(self.yard, lambda yard: yard.root.setLevel(5), ("", 5, ""))
        self.altered(self.yard, lambda yard: yard.root.setLevel(0), ("", 1, ""))
        self.altered(self.yard, lambda yard: yard.getLogger("c").setLevel(39), ("c", 39, ""))
        self.altered(self.yard, lambda yard: yard.getLogger("c").setLevel(0), ("c", 20, ""))
        self.altered(self.yard, lambda yard: yard.getLogger("a.b").setLevel(30), ("a.b", 20, ""))
        self.altered(self.yard, lambda yard: yard.getLogger("a.b").setLevel(20), None)
        self.altered(self.yard, lambda yard: yard.getLogger("x.y").setLevel(5), ("x.y", 5, ""))
        self.altered(yard_with({}, level=0), lambda yard: yard.root.setLevel(-5), None)
        self.altered(yard_with({}, level=0), lambda yard: yard.root.setLevel(1), None)

    def test_levels_of_handlers(self):
        self.altered(self.yard, lambda yard: yard.getLogger("a.b").handlers[0].setLevel(26), ("a.b", 25, ""))
        self.altered(self.yard, lambda yard: yard.getLogger("a.b").handlers[0].setLevel(1), ("a.b", 20, ""))
        self.altered(self.yard, lambda yard: yard.root.handlers[0].setLevel(20), None)
        self.altered(self.yard, lambda yard: yard.root.handlers[0].setLevel(10000), ("a", 20, ""))

    def test_flags(self):
        self.altered(self.yard, lambda yard: yard.getLogger("a.b").setPropagate(False), ("a.b", 20, ""))
        self.altered(self.yard, lambda yard: yard.getLogger("a.b").setDisabled(True), ("a.b", 20, ""))
        self.altered(self.yard, lambda yard: yard.root.setPropagate(False), None)
        self.altered(self.yard, lambda yard: yard.root.setDisabled(True), ("", 20, ""))
        self.altered(self.yard, lambda yard: yard.getLogger("d").setPropagate(False), ("d", 20, ""))
        self.altered(self.yard, lambda yard: yard.getLogger("D").setPropagate(False), None)
        self.altered(self.yard, lambda yard: yard.getLogger("d").setDisabled(True), ("d", 20, ""))

    def test_the_bar(self):
        self.altered(self.yard, lambda yard: yard.disable(19), None)
        self.altered(self.yard, lambda yard: yard.disable(20), ("", 20, ""))
        self.altered(self.yard, lambda yard: yard.disable(10000), ("", 20, ""))
        self.altered(self.yard, lambda yard: yard.disable(-1), None)
        self.altered(yard_with({}, level=50), lambda yard: yard.disable(9000), ("", 50, ""))

    def test_filters_of_a_logger(self):
        self.altered(self.yard, lambda yard: yard.root.addFilter(Filter("a")), ("", 20, ""))
        self.altered(self.yard, lambda yard: yard.root.addFilter(Filter("root")), None)
        self.altered(self.yard, lambda yard: yard.root.addFilter(Filter()), None)
        self.altered(self.yard, lambda yard: yard.getLogger("a.b").addFilter(Filter("a.b")), None)
        self.altered(self.yard, lambda yard: yard.getLogger("a.b").addFilter(Filter("a.b.")), ("a.b", 20, ""))
        self.altered(self.yard, lambda yard: yard.getLogger("d").addFilter(Filter("b")), ("d", 20, ""))

    def test_filters_of_a_handler(self):
        self.altered(self.yard, lambda yard: yard.root.handlers[0].removeFilter(yard.root.handlers[0].filters[0]), ("", 20, ""))
        self.altered(self.yard, lambda yard: yard.root.handlers[0].addFilter(Filter("a.b")), ("a", 20, ""))
        self.altered(self.yard, lambda yard: yard.root.handlers[0].addFilter(Filter("a")), None)
        self.altered(self.yard, lambda yard: yard.root.handlers[1].addFilter(Filter("root")), ("a", 20, ""))
        self.altered(self.yard, lambda yard: yard.getLogger("a.b").handlers[0].addFilter(Filter("a.b.c")), ("a.b", 25, ""))

    def test_names_of_levels(self):
        self.altered(self.yard, lambda yard: yard.add_level_name(20, "info"), ("", 20, ""))
        self.altered(self.yard, lambda yard: yard.add_level_name(1000, "x"), ("", 1000, ""))
        self.altered(self.yard, lambda yard: yard.add_level_name(1000, "Level 1000"), None)
        self.altered(self.yard, lambda yard: yard.add_level_name(1000, "Level 100"), ("", 1000, ""))
        self.altered(self.yard, lambda yard: yard.add_level_name(19, "x"), None)
        self.altered(self.yard, lambda yard: yard.add_level_name(-1, "x"), None)
        self.altered(yard_with({"fmt": "{levelno}"}), lambda yard: yard.add_level_name(20, "x"), None)

    def test_formats(self):
        plain = yard_with({})
        self.altered(plain, lambda yard: yard.root.handlers[0].setFormatter(Formatter("{name} {message}")), ("", 20, ""))
        self.altered(plain, lambda yard: yard.root.handlers[0].setFormatter(Formatter("", validate=False)), ("", 20, "a"))
        self.altered(plain, lambda yard: yard.root.handlers[0].setFormatter(Formatter()), None)

    def test_terminators_and_streams(self):
        self.altered(self.yard, lambda yard: yard.root.handlers[1].setTerminator(""), ("", 20, ""))
        self.altered(self.yard, lambda yard: yard.root.handlers[1].setStream("else"), ("", 20, ""))
        self.altered(yard_with({"terminator": ""}), lambda yard: yard.root.handlers[0].setStream("else"), ("", 20, "a"))

    def test_handlers(self):
        self.altered(self.yard, lambda yard: yard.getLogger("c").addHandler(lines(yard, "c")), ("c", 40, ""))
        self.altered(self.yard, lambda yard: yard.root.removeHandler(yard.root.handlers[0]), ("a", 20, ""))
        self.altered(self.yard, lambda yard: yard.root.addHandler(NullHandler(yard)), None)
        self.altered(self.yard, lambda yard: yard.root.addHandler(lines(yard, "new", "", terminator="")), None)
        self.altered(self.yard, lambda yard: yard.getLogger("d").addHandler(yard.root.handlers[1]), ("d", 20, ""))

    def test_the_order_of_handlers_at_one_stream(self):
        self.check(writing("a", "b"), writing("b", "a"), ("", 20, ""))
        self.check(writing("{message}", "b"), writing("b", "{message}"), ("", 20, "a"))
        self.check(writing("a", "aa"), writing("aa", "a"), None)
        both = [{"stream": "x"}, {"stream": "y"}]
        self.check(yard_with(*both), yard_with(*both[::-1]), None)

    def test_the_last_resort(self):
        self.altered(Yard(), lambda yard: yard.root.addHandler(NullHandler(yard)), ("", 30, ""))
        self.altered(Yard(), lambda yard: yard.root.addHandler(lines(yard, "stderr", level=30)), None)
        self.altered(Yard(), lambda yard: yard.root.addHandler(lines(yard, "stderr")), None)
        self.altered(yard_with(), lambda yard: yard.root.addHandler(lines(yard, "stderr")), ("", 20, ""))
        self.altered(Yard(), lambda yard: yard.root.addHandler(lines(yard, "stderr", level=31)), ("", 30, ""))
        self.altered(Yard(), lambda yard: yard.root.addHandler(lines(yard, "stderr", terminator="")), ("", 30, ""))
        self.altered(Yard(), lambda yard: yard.getLogger("a.b").setPropagate(False), None)
        self.altered(Yard(), lambda yard: yard.getLogger("a.b").addHandler(NullHandler(yard)), ("a.b", 30, ""))

    def test_what_lies_below_a_bar(self):
        one = yard_with({"fmt": "{levelname}"})
        one.disable(45)
        self.altered(one, lambda yard: yard.add_level_name(45, "x"), None)
        self.altered(one, lambda yard: yard.add_level_name(46, "x"), ("", 46, ""))


class Coincidences(Differences):
    """Formats that come to the same text for some records, so that the least one is not the first that comes to mind."""

    def test_names(self):
        self.check(writing("{name}"), writing("root"), ("a", 20, ""))
        below = writing("{name}")
        below.getLogger("a").addHandler(lines(below, "x"))
        other = copied(below)
        other.root.handlers[0].setFormatter(Formatter("root", validate=False))
        self.check(below, other, ("a", 20, ""))
        for text, name in (("a", "b"), ("b", "a")):
            one, two = (yard_with(level=20) for _ in range(2))
            for yard, fmt in ((one, "{name}"), (two, text)):
                yard.root.setDisabled(True)
                yard.root.addHandler(lines(yard, fmt=fmt, terminator=""))
            self.check(one, two, (name, 20, ""))
        self.check(writing("x{name}", level=20), writing("{name}x"), ("", 20, ""))
        self.check(writing("root{name}"), writing("{name}root"), ("a", 20, ""))
        one, two = writing("a{name}"), writing("{name}a")
        for yard in (one, two):
            yard.root.setDisabled(True)
        self.check(one, two, ("b", 20, ""))

    def test_names_below_a_mentioned_one(self):
        for text, name in (("a.a", "a.b"), ("a.c", "a.a")):
            yards = []
            for fmt in ("{name}", text):
                yard = Yard()
                yard.root.setLevel(99)
                yard.getLogger("a").setLevel(5)
                yard.getLogger("a").setDisabled(True)
                yard.getLogger("a").addHandler(lines(yard, fmt=fmt))
                yards.append(yard)
            self.check(*yards, (name, 5, ""))

    def test_levels(self):
        self.check(writing("{levelno}"), writing("20"), ("", 21, ""))
        self.check(writing("{levelno}"), writing("21"), ("", 20, ""))
        self.check(writing("{levelno}1"), writing("1{levelno}", level=11), ("", 11, ""))
        self.check(writing("{levelno}1", level=11), writing("1{levelno}", level=11), ("", 12, ""))
        self.check(writing("{levelno}", level=9), writing("9", level=9), ("", 10, ""))
        self.check(writing("{levelno}{levelno}", level=7), writing("7{levelno}", level=7), ("", 8, ""))
        self.check(writing("Level {levelno}", level=31), writing("{levelname}", level=31), ("", 40, ""))
        self.check(writing("{levelname}", level=20), writing("INFO", level=20), ("", 21, ""))
        self.check(writing("{levelname}", level=51), writing("Level 51", level=51), ("", 52, ""))
        self.check(writing("{levelname}", level=60), writing("Level 60", level=60), ("", 61, ""))

    def test_levels_without_a_name_beyond_all_bounds(self):
        for low in (51, 99, 999, 10000):
            self.check(writing("{levelno}", level=low), writing(str(low), level=low), ("", low + 1, ""))
            self.check(writing("{levelname}", level=low), writing("{levelno}", level=low), ("", low, ""))

    def test_messages(self):
        self.check(writing("{message}"), writing("", level=20), ("", 20, "a"))
        self.check(writing("{message}"), writing("a"), ("", 20, ""))
        self.check(writing("{message}a"), writing("a{message}"), ("", 20, "b"))
        self.check(writing("{message}b"), writing("b{message}"), ("", 20, "a"))
        self.check(writing("{message}{message}"), writing("{message}"), ("", 20, "a"))
        self.check(writing("{message}-"), writing("-{message}"), ("", 20, "a"))
        self.check(writing("a{message}a"), writing("a{message}a{message}"), ("", 20, "a"))
        self.check(writing("{message}ab"), writing("ab{message}"), ("", 20, "a"))

    def test_several_of_them_at_once(self):
        self.check(writing("{name}{message}"), writing("{message}{name}"), ("", 20, "a"))
        self.check(writing("{name}{levelno}"), writing("root20"), ("", 21, ""))
        self.check(writing("{name}{levelno}{message}"), writing("root{levelno}"), ("", 20, "a"))
        self.check(writing("{levelno}{message}"), writing("{message}{levelno}"), ("", 20, "a"))
        # For the name a each message hides the difference but those of other letters.
        one, two = writing("{name}{message}"), writing("{message}{name}")
        for yard in (one, two):
            yard.root.setDisabled(True)
        self.check(one, two, ("a", 20, "b"))
        one, two = writing("{name}{levelno}", level=21), writing("a21", level=21)
        for yard in (one, two):
            yard.root.setDisabled(True)
        self.check(one, two, ("a", 22, ""))

    def test_names_of_levels_that_read_like_another_text(self):
        one, two = writing("{levelname}{levelno}"), writing("Level 20{levelno}")
        self.check(one, two, ("", 20, ""))
        one.add_level_name(20, "Level 20")
        self.check(one, two, ("", 21, ""))
        one, two = writing("{levelname}"), writing("{name}")
        for level in range(20, 60):
            one.add_level_name(level, "root")
        self.check(one, two, ("", 60, ""))
        two.root.addFilter(Filter("b"))
        one.root.addFilter(Filter("b"))
        self.check(one, two, ("a", 20, ""))

    def test_several_streams(self):
        one = yard_with({"stream": "x", "fmt": "{levelno}"}, {"stream": "y", "fmt": "{message}a"})
        two = yard_with({"stream": "x", "fmt": "20"}, {"stream": "y", "fmt": "a{message}"})
        self.check(one, two, ("", 20, "b"))
        one = yard_with({"stream": "x", "fmt": "{message}b"}, {"stream": "y", "fmt": "{message}a"})
        two = yard_with({"stream": "x", "fmt": "b{message}"}, {"stream": "y", "fmt": "a{message}"})
        self.check(one, two, ("", 20, "a"))


class Names(Differences):
    """Where the least record has a name that none of the loggers has."""

    def named(self, names, fmt, flag=True):
        """A yard that writes nothing for these names and what is below them, but for all others."""
        yard = writing(fmt)
        yard.root.setDisabled(flag)
        for name in names:
            yard.getLogger(name).setPropagate(False)
            yard.getLogger(name).addHandler(NullHandler(yard))
        return yard

    def test_names_of_one_letter_that_are_taken(self):
        letters = "abcdefghijklmnopqrstuvwxyz"
        for taken, name in (("", "a"), ("a", "b"), ("abd", "c"), (letters[:25], "z")):
            self.check(self.named(taken, "x"), self.named(taken, "y"), (name, 20, ""))

    def test_all_names_of_one_letter_are_taken(self):
        yards = []
        for text in ("x", "y"):
            yard = self.named([], "{message}" + text)
            # Filters mention names, and keep all records with names of one letter from being written.
            for letter in "abcdefghijklmnopqrstuvwxyz":
                handler = NullHandler(yard)
                handler.addFilter(Filter(letter))
                yard.getLogger(letter).addHandler(handler)
                yard.getLogger(letter).setPropagate(False)
            yards.append(yard)
        self.check(*yards, ("aa", 20, ""))
        for yard in yards:
            yard.getLogger("aa").setDisabled(True)
            yard.getLogger("ab.x").setPropagate(False)
        self.check(*yards, ("ab", 20, ""))
        for yard in yards:
            yard.getLogger("ab").setDisabled(True)
        self.check(*yards, ("ac", 20, ""))

    def test_names_with_more_parts_than_all_mentioned_ones(self):
        yards = []
        for text in ("x", "y"):
            yard = Yard()
            yard.root.setDisabled(True)
            yard.root.setLevel(99)
            logger = yard.getLogger("a.b.c.d.e.f.g.h")
            logger.setLevel(5)
            logger.addHandler(lines(yard, fmt=text))
            logger.setDisabled(True)
            yards.append(yard)
        self.check(*yards, ("a.b.c.d.e.f.g.h.a", 5, ""))

    def test_one_part_of_a_long_name_comes_ahead_of_two_short_ones(self):
        one = writing("x")
        one.root.setDisabled(True)
        two = copied(one)
        two.getLogger("zzzz").setDisabled(True)
        two.getLogger("a.a").setDisabled(True)
        self.check(one, two, ("zzzz", 20, ""))

    def test_the_least_of_several_names(self):
        one = writing("x")
        one.getLogger("a").setDisabled(True)
        other = copied(one)
        other.getLogger("x.y").setDisabled(True)
        self.check(one, other, ("x.y", 20, ""))
        # The names below a come ahead of the one that is mentioned.
        other.getLogger("a").setLevel(25)
        self.check(one, other, ("a.a", 20, ""))
        other.getLogger("zz").setDisabled(True)
        self.check(one, other, ("zz", 20, ""))
        other.getLogger("m").setLevel(40)
        self.check(one, other, ("m", 20, ""))
        other.root.setLevel(10)
        self.check(one, other, ("", 10, ""))

    def test_a_name_below_one_that_is_mentioned_by_a_filter(self):
        one = yard_with({"filters": ["m.n"]})
        self.altered(one, lambda yard: yard.root.handlers[0].addFilter(Filter("m.n.o")), ("m.n", 20, ""))
        one.getLogger("m.n").setDisabled(True)
        self.altered(one, lambda yard: yard.root.handlers[0].addFilter(Filter("m.n.a")), ("m.n.b", 20, ""))
        self.altered(one, lambda yard: yard.root.handlers[0].addFilter(Filter("m.n.b")), ("m.n.a", 20, ""))
        self.altered(one, lambda yard: yard.root.handlers[0].addFilter(Filter("m")), None)

    def test_names_that_no_record_has(self):
        one = yard_with({})
        for name in ("A", "a.B", "a1", "a_b", "root.a", "root.root"):
            self.altered(one, lambda yard: yard.getLogger(name).setDisabled(True), None)
            self.altered(one, lambda yard: yard.getLogger(name).addHandler(lines(yard, "x")), None)
            # It lets by no record at all, but those of the root where it is its name.
            self.altered(one, lambda yard: yard.root.handlers[0].addFilter(Filter(name)), ("", 20, ""))
        self.altered(one, lambda yard: yard.root.handlers[0].addFilter(Filter("root")), ("a", 20, ""))
        self.altered(one, lambda yard: yard.getLogger("a.root").setDisabled(True), ("a.root", 20, ""))

    def test_the_name_root_is_left_out_among_those_of_one_part(self):
        letters = "abcdefghijklmnopqrstuvwxyz"
        one, two = writing("{name}"), writing("{name}")
        for yard, flag in ((one, True), (two, False)):
            yard.root.setDisabled(True)
            yard.getLogger("rooa").setDisabled(flag)
        self.check(one, two, ("rooa", 20, ""))
        self.assertEqual([next_word(word) for word in ("", "a", "z", "az", "zz", "rooz", "azz", "root")], ["a", "b", "aa", "ba", "aaa", "ropa", "baa", "roou"])
        word = ""
        for letter in letters:
            word = next_word(word)
            self.assertEqual(word, letter)


class Alike(Differences):
    """Yards that look otherwise, and are alike for all records."""

    def test_filters_that_let_all_by(self):
        one = yard_with({"filters": ["", ""]})
        one.root.addFilter(Filter())
        self.check(one, yard_with({}), None)

    def test_loggers_that_add_nothing(self):
        one = yard_with({})
        one.getLogger("a.b.c")
        one.getLogger("b").setLevel(20)
        one.getLogger("b").addFilter(Filter("b"))
        one.getLogger("C.d").addHandler(lines(one))
        self.check(one, yard_with({}), None)

    def test_styles_and_terminators(self):
        one = yard_with({"fmt": "{levelname}: {name}{{ {message}", "terminator": "!\n"})
        two = yard_with({"terminator": "\n"})
        two.root.handlers[0].setFormatter(Formatter("$levelname: ${name}{ $message!", "$"))
        self.check(one, two, None)
        two = yard_with({"fmt": "{levelname}: ", "terminator": ""}, {"fmt": "{name}", "terminator": "{ "}, {"fmt": "{message}!"})
        self.check(one, two, None)

    def test_handlers_that_write_nothing(self):
        one = yard_with({}, {"stream": "new", "fmt": "", "terminator": ""}, {"filters": ["A"]})
        one.root.addHandler(NullHandler(one))
        self.check(one, yard_with({}), None)

    def test_one_handler_for_each_level(self):
        one = Yard()
        two = yard_with({"fmt": "{levelname}"}, level=20)
        two.root.handlers[0].setLevel(20)
        one.root.setLevel(20)
        one.root.addHandler(lines(one, fmt="{levelname}"))
        one.root.handlers[0].setLevel(1)
        self.check(one, two, None)
        for yard in (one, two):
            yard.add_level_name(33, "Level 33")
        self.check(one, two, None)

    def test_names_of_levels_told_in_other_ways(self):
        one, two = writing("{levelname}", level=21), writing("Level {levelno}", level=21)
        for level in (30, 40, 50):
            one.add_level_name(level, f"Level {level}")
        self.check(one, two, None)

    def test_the_root_told_as_a_text(self):
        one, two = yard_with({"fmt": "{name}", "filters": ["root"]}), yard_with({"fmt": "root", "filters": ["root"]})
        self.check(one, two, None)

    def test_the_only_level_that_is_left_told_as_a_text(self):
        one, two = (yard_with({"fmt": fmt, "level": 20}, {"fmt": "", "terminator": "", "level": 21}, level=20) for fmt in ("{levelno}", "20"))
        self.check(one, two, ("", 21, ""))


class Small(Differences):
    step = 1

    def test_all_records_up_to_some_size_are_tried(self):
        told = []
        for seed in range(45):
            one = yard_at_random(seed)
            other = altered_at_random(one, seed) if seed % 5 else yard_at_random(seed + 1000)
            record = difference(one, other)
            self.check(one, other, record)
            told.append(record)
        self.assertGreater(len([record for record in told if record is None]), 5)
        self.assertGreater(len({record for record in told if record is not None}), 5)
