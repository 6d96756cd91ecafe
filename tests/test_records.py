"""[8], [9]: records and their messages."""

import copy
import string
import unittest

from recordyard.errors import BadExtra, BadField, BadLevel, BadMessage
from recordyard.records import LogRecord
from recordyard.yards import Yard
from tests.helpers import objects

KEPT = ["name", "levelno", "levelname", "msg", "args", "created", "msecs", "message", "asctime"]


def record_of(msg, args=()):
    return Yard().make_record("a", 20, msg, args)


class Attributes(unittest.TestCase):
    def test_all_are_set_when_it_is_made(self):
        record = Yard(123456).make_record("a.b", 20, "{} and {}", (1, "x"), {"k": [1]})
        self.assertIsInstance(record, LogRecord)
        self.assertEqual(
            (record.name, record.levelno, record.levelname, record.msg, record.given, record.created, record.extra),
            ("a.b", 20, "INFO", "{} and {}", (1, "x"), 123456, {"k": [1]}),
        )

    def test_args_and_extra_may_be_missing(self):
        record = Yard().make_record("a", 20, "m")
        self.assertEqual((record.given, record.extra), ((), {}))

    def test_parameters_go_by_keyword(self):
        record = Yard().make_record(extra={"k": 1}, args=[2], msg="m", level=10, name="n")
        told = (record.name, record.levelno, record.msg, record.given, record.extra)
        self.assertEqual(told, ("n", 10, "m", (2,), {"k": 1}))

    def test_a_list_of_args_becomes_a_tuple(self):
        self.assertEqual(record_of("{}{}", [1, [2]]).given, (1, [2]))
        self.assertIs(type(record_of("{}", [1]).given), tuple)
        self.assertEqual(record_of("m", []).given, ())

    def test_names_are_any_texts(self):
        for name in ("", "root", "a b", "..", "\n"):
            self.assertEqual(Yard().make_record(name, 20, "m").name, name)

    def test_level_is_a_number_or_a_name(self):
        yard = Yard()
        yard.add_level_name(25, "NOTE")
        for level, number, name in (
            (25, 25, "NOTE"), ("NOTE", 25, "NOTE"), ("WARN", 30, "WARNING"), ("FATAL", 50, "CRITICAL"),
            (7, 7, "Level 7"), (-7, -7, "Level -7"), (0, 0, "NOTSET"),
        ):
            record = yard.make_record("a", level, "m")
            self.assertEqual((record.levelno, record.levelname), (number, name))

    def test_the_name_of_the_level_is_the_one_of_that_moment(self):
        yard = Yard()
        record = yard.make_record("a", 20, "m")
        yard.add_level_name(20, "TOLD")
        self.assertEqual(record.levelname, "INFO")
        self.assertEqual(record.field("levelname"), "INFO")
        self.assertEqual(yard.make_record("a", 20, "m").levelname, "TOLD")

    def test_created_is_what_the_clock_showed(self):
        yard = Yard(5)
        first = yard.make_record("a", 20, "m")
        yard.advance(milliseconds=1000)
        self.assertEqual((first.created, yard.make_record("a", 20, "m").created), (5, 1005))
        yard.advance(0)
        self.assertEqual(yard.now(), 1005)
        self.assertEqual(Yard().now(), 0)

    def test_records_are_equal_only_to_themselves(self):
        yard = Yard()
        one, other = yard.make_record("a", 20, "m"), yard.make_record("a", 20, "m")
        self.assertNotEqual(one, other)
        self.assertEqual(one, one)
        self.assertNotIn(other, [one])


class Wrong(unittest.TestCase):
    def test_levels(self):
        for level in [True, False, None, "info", "", (20,), [20], {"a": 1}]:
            with self.assertRaises(BadLevel) as caught:
                Yard().make_record("a", level, "m")
            self.assertIs(caught.exception.level, level)

    def test_each_kept_name_in_extra(self):
        for name in KEPT:
            with self.assertRaises(BadExtra) as caught:
                Yard().make_record("a", 20, "m", (), {"z": 1, name: 2})
            self.assertEqual(caught.exception.name, name)

    def test_the_least_kept_name_is_told(self):
        for count in range(1, len(KEPT) + 1):
            names = KEPT[-count:]
            for order in (names, names[::-1], sorted(names), sorted(names, reverse=True)):
                with self.assertRaises(BadExtra) as caught:
                    Yard().make_record("a", 20, "m", (), {name: 1 for name in order})
                self.assertEqual(caught.exception.name, min(names))

    def test_other_names_are_free(self):
        extra = {"": 1, "Name": 2, "level": 3, "given": 4, "extra": 5, "exc_info": 6, "asctime ": 7, "field": 8}
        record = Yard().make_record("a", 20, "m", (), extra)
        self.assertEqual(record.extra, extra)
        for name in extra:
            self.assertEqual(record.field(name), extra[name])

    def test_bad_level_goes_ahead_of_bad_extra(self):
        with self.assertRaises(BadLevel):
            Yard().make_record("a", "none", "m", (), {"name": 1})


class Fields(unittest.TestCase):
    def test_each_field(self):
        record = Yard(98765).make_record("a.b", "ERROR", "{}!", ("x",), {"k": (1, [2])})
        told = {name: record.field(name) for name in
                ("name", "levelno", "levelname", "msg", "args", "created", "msecs", "message", "k")}
        self.assertEqual(told, {
            "name": "a.b", "levelno": 40, "levelname": "ERROR", "msg": "{}!", "args": ("x",), "created": 98765,
            "msecs": 765, "message": "x!", "k": (1, [2]),
        })

    def test_msecs(self):
        for created, msecs in ((0, 0), (1, 1), (999, 999), (1000, 0), (1001, 1), (253402300799999, 999)):
            self.assertEqual(Yard(created).make_record("a", 20, "m").field("msecs"), msecs)

    def test_values_of_all_kinds_in_extra(self):
        for thing in objects():
            value = Yard().make_record("a", 20, "m", (), {"k": thing}).field(name="k")
            self.assertEqual(repr(value), repr(thing))

    def test_fields_that_nobody_has(self):
        record = Yard().make_record("a", 20, "m", (), {"k": 1})
        for name in ("", "K", "asctime", "given", "extra", "levelno ", "field", "none", None, 1, (), [], {}):
            with self.assertRaises(BadField) as caught:
                record.field(name)
            self.assertIs(caught.exception.name, name)

    def test_only_the_field_message_needs_the_message(self):
        record = Yard().make_record("a", 20, "{", (1,), {"k": 1})
        for name in ("name", "levelno", "levelname", "msg", "args", "created", "msecs", "k"):
            record.field(name)
        with self.assertRaises(BadMessage):
            record.field("message")
        with self.assertRaises(BadField):
            record.field("none")


class Independence(unittest.TestCase):
    def test_what_was_passed_is_not_changed(self):
        args, extra = [1, [2, {"x": []}]], {"k": {"in": [1]}}
        before = copy.deepcopy((args, extra))
        record = Yard().make_record("a", 20, "{} {}", args, extra)
        record.message()
        record.field("k")
        self.assertEqual((args, extra), before)

    def test_later_changes_at_any_depth_change_nothing(self):
        args = [[1], ([2],), {"x": [3]}]
        extra = {"k": {"in": [1]}, "t": ([1], {"y": ()})}
        record = Yard().make_record("a", 20, "{} {} {}", args, extra)
        args[0].append(9)
        args[1][0].append(9)
        args[2]["x"].append(9)
        args.append(9)
        extra["k"]["in"].append(9)
        extra["t"][0].append(9)
        extra["t"][1]["z"] = 9
        extra["new"] = 9
        self.assertEqual(record.given, ([1], ([2],), {"x": [3]}))
        self.assertEqual(record.extra, {"k": {"in": [1]}, "t": ([1], {"y": ()})})
        self.assertEqual(record.message(), "[1] ([2],) {'x': [3]}")

    def test_objects_nested_deep(self):
        # [5]: a function that calls itself once for each level still gets through these.
        value = [7]
        for number in range(600):
            value = ([value], (value,), {"k": value})[number % 3]
        record = Yard().make_record("a", 20, "m", (value,), {"x": value})
        for told in (record.field("args")[0], record.field("x"), record.given[0]):
            for _ in range(600):
                told = told["k"] if isinstance(told, dict) else told[0]
            self.assertEqual(told, [7])

    def test_what_is_returned_belongs_to_the_caller(self):
        record = Yard().make_record("a", 20, "{}", ([1, [2]],), {"k": {"in": [1]}, "t": ([1],)})
        record.field("args")[0][1].append(9)
        record.field("args")[0].append(9)
        record.field("k")["in"].append(9)
        record.field("k")["new"] = 9
        record.field("t")[0].append(9)
        self.assertEqual(record.given, ([1, [2]],))
        self.assertEqual(record.extra, {"k": {"in": [1]}, "t": ([1],)})
        self.assertEqual(record.field("k"), {"in": [1]})


class Messages(unittest.TestCase):
    def test_without_args_msg_itself(self):
        for msg in ("", "m", "{", "}", "{{", "}}", "{}", "{}{}", "}{", "{x}", "a{{b}}c\n"):
            self.assertEqual(record_of(msg).message(), msg)

    def test_braces_with_args(self):
        for msg, text in (
            ("{}", "x"), ("{{{}", "{x"), ("{}}}", "x}"), ("{{}}{}", "{}x"), ("{{{}}}", "{x}"), ("{}{{}}", "x{}"),
            ("{{{{{}}}}}", "{{x}}"), ("a{{b}}c{}d", "a{b}cxd"), ("}}{{{}", "}{x"), ("{}{{", "x{"), ("}}{}", "}x"),
            (" {} ", " x "), ("\n{}", "\nx"), ("{{a}} {}", "{a} x"),
        ):
            self.assertEqual(record_of(msg, ("x",)).message(), text)
            self.assertEqual(msg.format("x"), text)

    def test_args_of_each_kind_are_written_as_str_writes_them(self):
        for thing in objects():
            self.assertEqual(record_of("<{}>", (thing,)).message(), "<" + str(thing) + ">")

    def test_several_args_stand_in_their_order(self):
        self.assertEqual(record_of("{}{}-{}", (1, "b", None)).message(), "1b-None")
        things = objects()
        text = record_of("{}|" * len(things), things).message()
        self.assertEqual(text, "".join(str(thing) + "|" for thing in things))

    def test_braces_in_args_are_left_alone(self):
        self.assertEqual(record_of("{}{}", ("{}", "{{")).message(), "{}{{")

    def test_wrong_messages(self):
        one = ("x",)
        wrong = [
            ("", one), ("m", one), ("{{}}", one), ("{}{}", one), ("{}", (1, 2)), ("{}{}{}", (1, 2)), ("{} {}", (1, 2, 3)),
            ("{", one), ("}", one), ("{}{", one), ("{}}", one), ("{{}", one), ("}{", one), ("}{}", one), ("{}}{", one),
            ("a{b{}", one), ("a}b{}", one), ("{}a{b", one), ("{}a}b", one), ("{a}", one), ("{0}", one), ("{ }", one),
            ("{!r}", one), ("{:5}", one), ("{{{", one), ("}}}", one), ("{{}}}{}", one), ("{}{x}", one), ("{\n}", one),
            ("{}{", (1, 2)), ("{{{}}", one), ("{{}{}", one),
        ]
        for msg, args in wrong:
            record = record_of(msg, args)
            for _ in range(3):
                with self.assertRaises(BadMessage, msg=msg) as caught:
                    record.message()
                self.assertEqual(caught.exception.msg, msg)
            self.assertEqual((record.msg, record.given), (msg, args))

    def test_asking_changes_nothing(self):
        record = record_of("{} {}", ([1], "b"))
        self.assertEqual([record.message() for _ in range(3)], ["[1] b"] * 3)
        self.assertEqual((record.msg, record.given), ("{} {}", ([1], "b")))

    def test_every_short_message_is_read_as_the_document_says(self):
        for length in range(7):
            for number in range(3 ** length):
                msg = "".join("{}x"[number // 3 ** place % 3] for place in range(length))
                for args in ((1,), (1, 2), (1, 2, 3)):
                    record = record_of(msg, args)
                    self.assertEqual(self.told(record), expected(msg, args), msg)

    def told(self, record):
        try:
            return record.message()
        except BadMessage:
            return None


def expected(msg, args):
    """The message by Python's own format, or None where there is none."""
    try:
        places = [name for _, name, _, _ in string.Formatter().parse(msg) if name is not None]
        return msg.format(*args) if len(places) == len(args) else None
    except (ValueError, LookupError):
        return None
