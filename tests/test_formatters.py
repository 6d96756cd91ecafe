"""[10], [11]: which formats there are, and what they make of records."""

import datetime
import unittest

from recordyard.errors import BadField, BadFormat, BadMessage, BadStyle
from recordyard.formatters import Formatter
from recordyard.yards import Yard
from tests.helpers import objects

BOTH = ("{", "$")


def record_of(extra=None, msg="m", args=(), now=0, name="a.b", level=20):
    return Yard(now).make_record(name, level, msg, args, extra)


def shown(fmt, value, style="{"):
    """What a format makes of a record whose field x is value."""
    return Formatter(fmt, style).formatted(record_of({"x": value}))


class Refusing(unittest.TestCase):
    def refused(self, fmt, style="{", validates=(True, False)):
        for validate in validates:
            with self.assertRaises(BadFormat, msg=fmt) as caught:
                Formatter(fmt, style, validate)
            self.assertEqual(caught.exception.fmt, fmt)
        if True in validates:
            with self.assertRaises(BadFormat):
                Formatter(fmt, style)


class Styles(Refusing):
    def test_objects_that_are_no_style(self):
        for style in objects() + ["%", "{}", "{{", "$$", "{ ", ["{"], ("$",), {"{": "$"}]:
            for fmt in ("{message}", "{", "", None, "$"):
                with self.assertRaises(BadStyle) as caught:
                    Formatter(fmt, style)
                self.assertIs(caught.exception.style, style)

    def test_bad_style_goes_ahead_of_bad_format(self):
        with self.assertRaises(BadStyle):
            Formatter("{", "%", False)

    def test_a_style_reads_its_own_fields_alone(self):
        self.assertEqual(Formatter("{name} $name", "{").formatted(record_of()), "a.b $name")
        self.assertEqual(Formatter("{name} $name", "$").formatted(record_of()), "{name} a.b")

    def test_without_a_format_the_message(self):
        for formatter in (Formatter(), Formatter(None), Formatter(None, "$"), Formatter(style="$", validate=False)):
            self.assertEqual(formatter.fields(), ("message",))
            self.assertIs(formatter.uses_time(), False)
            self.assertEqual(formatter.formatted(record_of(msg="{}!", args=(1,))), "1!")

    def test_parameters_go_by_keyword(self):
        formatter = Formatter(defaults={"x": 1}, validate=True, style="$", fmt="$x")
        self.assertEqual(formatter.formatted(record=record_of()), "1")

    def test_objects_that_are_no_texts_are_no_formats(self):
        for fmt in objects():
            if fmt is not None and not isinstance(fmt, str):
                for style in BOTH:
                    self.refused(fmt, style)


class WithoutFields(Refusing):
    def test_they_are_refused_only_where_they_are_validated(self):
        for style, fmts in (
            ("{", (("", ""), ("text", "text"), ("\n", "\n"), ("{{", "{"), ("}}", "}"), ("{{name}}", "{name}"),
                   ("$name", "$name"), ("$", "$"))),
            ("$", (("", ""), ("text", "text"), ("\n", "\n"), ("$$", "$"), ("$$name", "$name"), ("$${name}", "${name}"),
                   ("{name}", "{name}"), ("{", "{"), ("}}", "}}"))),
        ):
            for fmt, text in fmts:
                self.refused(fmt, style, (True,))
                formatter = Formatter(fmt, style, validate=False)
                self.assertEqual(formatter.formatted(record_of()), text)
                self.assertEqual(formatter.fields(), ())
                self.assertIs(formatter.uses_time(), False)


class Braces(Refusing):
    def test_texts_and_fields(self):
        for fmt, text in (
            ("{x}", "v"), ("<{x}>", "<v>"), ("{x}{x}", "vv"), ("{x} {name} {x}", "v a.b v"), ("{{{x}}}", "{v}"),
            ("{{}}{x}", "{}v"), ("{x}{{", "v{"), ("{x}}}", "v}"), ("}}{x}", "}v"), ("{{x}}{x}", "{x}v"),
            ("\n{x}\n", "\nv\n"), ("{x}$x", "v$x"), ("{{{{{x}", "{{v"), ("a:b!r{x}", "a:b!rv"),
        ):
            self.assertEqual(shown(fmt, "v"), text)

    def test_names(self):
        for name in ("a", "Z", "_", "__", "_1", "a1", "aZ_09", "n" * 60, "self", "None", "x0"):
            self.assertEqual(Formatter("{" + name + "}").fields(), (name,))
            self.assertEqual(Formatter("{" + name + "}").formatted(record_of({name: 5} if name != "name" else None)), "5")
        for name in ("", " ", "1", "1a", "0", "a b", " a", "a ", "a.b", "a[0]", "a-b", "-a", "a$", "$a", "a/", "@", "`", "[",
                     "a'", "a\n", "\na", "\"a\""):
            self.refused("{" + name + "}")
            self.refused("{name}{" + name + "} ")

    def test_single_braces(self):
        for fmt in ("{", "}", "{{{", "}}}", "{name}{", "{name}}", "{{name}", "{name", "name}", "}{", "}{name}", "{name}}{name}",
                    "a{b", "a}b", "{name}a{", "{name}a}", "{ {name}", "{name}}}}", "{{{name}}", "{}}", "{{}",
                    "{na{me}", "{na}me}", "{na{{me}", "{na}}me}", "{{}}}", "{\n", "{name:{", "{name:}<5}", "{name!r"):
            self.refused(fmt)

    def test_empty_fields(self):
        for fmt in ("{}", "{name}{}", "{}{name}", "{!r}", "{:5}", "{!s:>5}", "{:}", "{!}"):
            self.refused(fmt)

    def test_ways(self):
        self.assertEqual(shown("{x!r}|{x!s}|{x}", "v"), "'v'|v|v")
        for way in ("!", "!a", "!R", "!S", "!x", "!rr", "!sr", "!r!s", "! r", "!r ", "!:5", "!r5", "!r<5", "!rs", "!0", "!!r", " !r"):
            self.refused("{x" + way + "}")
            self.refused("{x" + way + ":<5}" if ":" not in way else "{x" + way + "<}")

    def test_empty_specs(self):
        for fmt in ("{x:}", "{x!r:}", "{x!s:}", "{name}{x:}"):
            self.refused(fmt)

    def test_all_specs_that_there_are(self):
        signs = [chr(code) for code in range(32, 127) if chr(code) not in "{}%"] + ["\n"]
        for way in ("", "!r", "!s"):
            for fill in [""] + signs:
                for align in ("<", ">", "^"):
                    for width in ("", "1", "9", "10", "99"):
                        fmt = "{x" + way + ":" + fill + align + width + "}"
                        text = "'v'" if way == "!r" else "v"
                        expected = format(text, fill + align + width)
                        self.assertEqual(shown(fmt, "v"), expected, fmt)
        for width in range(1, 100):
            self.assertEqual(shown("{x:" + str(width) + "}", "v"), "v".ljust(width))

    def test_fills_that_are_aligns_and_colons(self):
        for fmt, text in (
            ("{x:<<3}", "v<<"), ("{x:><3}", "v>>"), ("{x:^<3}", "v^^"), ("{x:<>3}", "<<v"), ("{x:^^3}", "^v^"),
            ("{x::>3}", "::v"), ("{x:!>3}", "!!v"), ("{x:0>3}", "00v"), ("{x:5<3}", "v55"), ("{x:<<}", "v"), ("{x:^>}", "v"),
            ("{x!r::^7}", "::'v'::"), ("{x!s:!<3}", "v!!"), ("{x:1<2}", "v1"), ("{x: >3}", "  v"), ("{x:$>3}", "$$v"),
        ):
            self.assertEqual(shown(fmt, "v"), text)

    def test_specs_of_another_form(self):
        for spec in ("0", "00", "01", "05", "100", "999", "<0", "<05", "<00", "<100", "*<0", "*<01", "*<100", ">010", "{<5", "}<5",
                     "{>", "{^9", "<{", "<5 ", " 5", "5 ", "<5d", "5s", "d", "s", "x", "*5", "**<5", "*", "**", " ", "<5<", "5<5<",
                     "=5", "=", "+5", "-5", "#5", ",", "5,", ".5", "5.5", "<-1", "<+1", "<5\n", "1a", "a1", "<a", ":5", "<5:",
                     "<5!r", "_", "<1_0", "<^5>"):
            self.refused("{x:" + spec + "}")
            self.refused("{x!r:" + spec + "}")
            self.refused("{name} {x!s:" + spec + "} ")


class Dollars(Refusing):
    def shown(self, fmt, value="v"):
        return shown(fmt, value, "$")

    def test_texts_and_fields(self):
        for fmt, text in (
            ("$x", "v"), ("${x}", "v"), ("<$x>", "<v>"), ("$x$x", "vv"), ("$x${x}$x", "vvv"), ("$x $name", "v a.b"),
            ("$$$x", "$v"), ("$x$$", "v$"), ("$$x$x", "$xv"), ("${x}$$", "v$"), ("${x}x", "vx"), ("$x.y", "v.y"), ("$x-x", "v-x"),
            ("$$$$$x", "$$v"), ("$x{x}", "v{x}"), ("{$x}", "{v}"), ("{{$x}}", "{{v}}"), ("}$x{", "}v{"), ("${x}{", "v{"),
            ("\n$x\n", "\nv\n"), ("${x}!r", "v!r"), ("$x!r", "v!r"), ("$x:5", "v:5"), ("${x}}", "v}"), ("$x}", "v}"), ("$x$$x", "v$x"),
        ):
            self.assertEqual(self.shown(fmt), text)

    def test_names_are_as_long_as_possible(self):
        record = record_of({"x": 1, "xy": 2, "xy_": 3, "xy_9": 4, "_": 5, "X": 6})
        for fmt, text in (("$x", "1"), ("$xy", "2"), ("$xy_", "3"), ("$xy_9", "4"), ("$xy_9-", "4-"), ("${x}y", "1y"),
                          ("$_", "5"), ("${_}x", "5x"), ("$X", "6"), ("$x.y", "1.y"), ("$x y", "1 y"), ("${xy}_9", "2_9")):
            self.assertEqual(Formatter(fmt, "$").formatted(record), text)
        with self.assertRaises(BadField) as caught:
            Formatter("$x9", "$").formatted(record)
        self.assertEqual(caught.exception.name, "x9")

    def test_dollars_ahead_of_anything_else(self):
        for after in (" ", "1", "1a", "-", ".", "}", "}x", "\n", "!", ":", "\"", "'", "/", "(x)", " x", "@", "[", "`"):
            for fmt in ("$" + after, "$x$" + after, "$$$" + after, "$" + after + "$x"):
                self.refused(fmt, "$")

    def test_a_dollar_at_the_end(self):
        for fmt in ("$", "$x$", "$$$", "${x}$", "text$", "$x$$$"):
            self.refused(fmt, "$")

    def test_open_braces(self):
        for fmt in ("${", "${x", "$x${", "$x${x", "${x ", "${x$x", "${x${x}", "$${x}${"):
            self.refused(fmt, "$")

    def test_braces_around_what_is_no_name(self):
        for inner in ("", " ", "1", "1x", "x y", " x", "x ", "x!r", "x!s", "x:5", "x:<5", "x.y", "{x", "$x", "x$", "x-", "\nx", "{x}"):
            self.refused("${" + inner + "}", "$")
            self.refused("$x ${" + inner + "} $x", "$")


class Filling(unittest.TestCase):
    def test_values_of_all_kinds(self):
        for thing in objects():
            for way, text in (("", str(thing)), ("!s", str(thing)), ("!r", repr(thing))):
                number = type(thing) is int and way == ""
                for width in (len(text) - 1, len(text), len(text) + 1, len(text) + 2, len(text) + 7, 99):
                    if 1 <= width <= 99:
                        self.check(thing, way, text, number, width)

    def check(self, thing, way, text, number, width):
        for fill, align in (("", ""), ("", "<"), ("", ">"), ("", "^"), ("*", "<"), ("*", ">"), ("*", "^")):
            lacking = max(0, width - len(text))
            sign = fill or " "
            side = align or (">" if number else "<")
            left = {"<": 0, ">": lacking, "^": lacking // 2}[side]
            expected = sign * left + text + sign * (lacking - left)
            self.assertEqual(shown("{x" + way + ":" + fill + align + str(width) + "}", thing), expected)

    def test_without_an_align(self):
        for value, text in ((5, "    5"), (-5, "   -5"), (True, "True "), (False, "False"), (None, "None "), ("5", "5    "),
                            ([], "[]   "), ((), "()   "), ({}, "{}   "), ([5], "[5]  ")):
            self.assertEqual(shown("{x:5}", value), text)
        self.assertEqual(shown("{x!s:5}", 5), "5    ")
        self.assertEqual(shown("{x!r:5}", 5), "5    ")

    def test_in_the_middle_the_greater_half_stands_on_the_right(self):
        for width, text in ((1, "v"), (2, "v-"), (3, "-v-"), (4, "-v--"), (5, "--v--"), (6, "--v---")):
            self.assertEqual(shown("{x:-^" + str(width) + "}", "v"), text)

    def test_longer_values_are_not_cut(self):
        for spec in ("3", "<3", ">3", "^3", "*^1"):
            self.assertEqual(shown("{x:" + spec + "}", "abcd"), "abcd")
            self.assertEqual(shown("{x:" + spec + "}", 12345), "12345")

    def test_an_align_without_a_width_does_nothing(self):
        for spec in ("<", ">", "^", "*<", "*>", "*^"):
            self.assertEqual(shown("{x:" + spec + "}", ""), "")
            self.assertEqual(shown("{x:" + spec + "}", 5), "5")


class Formatted(unittest.TestCase):
    def test_each_field_of_records(self):
        record = record_of({"k": [1]}, "{}!", ("x",), 98765)
        fmt = "{name}|{levelno}|{levelname}|{msg}|{args}|{created}|{msecs}|{message}|{k}|{asctime}"
        text = "a.b|20|INFO|{}!|('x',)|98765|765|x!|[1]|1970-01-01 00:01:38,765"
        self.assertEqual(Formatter(fmt).formatted(record), text)
        dollars = fmt.replace("{", "$").replace("}", "")
        self.assertEqual(Formatter(dollars, "$").formatted(record), text)

    def test_fields_of_records_with_specs(self):
        record = record_of(None, "m", ("x",), 1005)
        self.assertEqual(Formatter("{levelno:4}{levelname:6}{msecs:0>3}{args!r:>8}").formatted(record), "  20INFO  005  ('x',)")

    def test_asctime(self):
        start = datetime.datetime(1970, 1, 1)
        for when in (
            (1970, 1, 1), (1970, 1, 1, 0, 0, 0, 1000), (2001, 2, 3, 4, 5, 6, 7000), (2001, 12, 31, 23, 59, 59, 999000),
            (2002, 1, 1), (2004, 2, 28, 23, 59, 59, 999000), (2004, 2, 29), (2004, 2, 29, 23, 59, 59), (2004, 3, 1),
            (2003, 2, 28, 23, 59, 59), (2003, 3, 1), (2000, 2, 29, 12, 30, 45, 10000), (2100, 2, 28, 23, 59, 59), (2100, 3, 1),
            (2011, 4, 30, 23, 59, 59), (2011, 5, 1), (2011, 10, 31, 10, 10, 10, 100000), (9999, 1, 1), (9999, 12, 31, 23, 59, 59, 999000),
        ):
            time = datetime.datetime(*when)
            now = (time - start) // datetime.timedelta(milliseconds=1)
            text = time.isoformat(" ", "milliseconds").replace(".", ",")
            for fmt, style in (("{asctime}", "{"), ("$asctime", "$"), ("${asctime}", "$"), ("{asctime!s}", "{"), ("{asctime:9}", "{")):
                self.assertEqual(Formatter(fmt, style).formatted(record_of(now=now)), text)

    def test_asctime_is_a_text(self):
        text = "1970-01-01 00:00:00,000"
        self.assertEqual(Formatter("{asctime:25}|").formatted(record_of()), text + "  |")
        self.assertEqual(Formatter("{asctime!r:27}|").formatted(record_of()), repr(text) + "  |")

    def test_the_record_goes_ahead_of_its_extra_and_this_ahead_of_the_defaults(self):
        defaults = {"name": "d", "levelno": "d", "message": "d", "asctime": "d", "args": "d", "msecs": "d", "x": "d", "y": "d"}
        formatter = Formatter("{name} {levelno} {message} {asctime} {args} {msecs} {x} {y}", defaults=defaults)
        text = formatter.formatted(record_of({"x": "e"}))
        self.assertEqual(text, "a.b 20 m 1970-01-01 00:00:00,000 () 0 e d")

    def test_values_of_extra_that_are_nothing_go_ahead_too(self):
        for thing in (None, 0, "", False, [], (), {}):
            record = record_of({"x": thing})
            self.assertEqual(Formatter("{x}", defaults={"x": "d"}).formatted(record), str(thing))

    def test_defaults_of_all_kinds(self):
        for thing in objects():
            formatter = Formatter("{x} {x!r}", defaults={"x": thing})
            self.assertEqual(formatter.formatted(record_of()), str(thing) + " " + repr(thing))
            self.assertEqual(Formatter("$x", "$", True, {"x": thing}).formatted(record_of()), str(thing))

    def test_defaults_with_specs(self):
        formatter = Formatter("{x:4}{y:4}{x!s:4}", defaults={"x": 5, "y": True})
        self.assertEqual(formatter.formatted(record_of()), "   5True5   ")

    def test_defaults_that_are_changed_later_change_nothing(self):
        defaults = {"x": [1, {"k": [2]}], "y": ([3],)}
        formatter = Formatter("{x} {y}", defaults=defaults)
        defaults["x"][1]["k"].append(9)
        defaults["x"].append(9)
        defaults["y"][0].append(9)
        defaults["y"] = 9
        defaults["z"] = 9
        self.assertEqual(formatter.formatted(record_of()), "[1, {'k': [2]}] ([3],)")
        with self.assertRaises(BadField):
            Formatter("{z}", defaults={"y": 1}).formatted(record_of())

    def test_formatting_changes_nothing(self):
        record = record_of({"x": [1]}, "{}", ("v",))
        formatter = Formatter("{x} {message}")
        self.assertEqual([formatter.formatted(record) for _ in range(3)], ["[1] v"] * 3)
        self.assertEqual((record.msg, record.given, record.extra), ("{}", ("v",), {"x": [1]}))


class Failing(unittest.TestCase):
    def test_fields_without_a_value(self):
        for fmt, style, name in (("{none}", "{", "none"), ("$none", "$", "none"), ("${none}", "$", "none"),
                                 ("{x}{none!r:5}", "{", "none"), ("{name} {one} {two}", "{", "one"), ("{two} {one}", "{", "two")):
            with self.assertRaises(BadField) as caught:
                Formatter(fmt, style, defaults={"other": 1}).formatted(record_of({"x": 1}))
            self.assertEqual(caught.exception.name, name)

    def test_messages_that_cannot_be_made(self):
        for fmt in ("{message}", "{name}{message}", "{message!r:>9}", None):
            with self.assertRaises(BadMessage) as caught:
                Formatter(fmt).formatted(record_of(msg="{", args=(1,)))
            self.assertEqual(caught.exception.msg, "{")

    def test_defaults_do_not_stand_for_messages(self):
        with self.assertRaises(BadMessage):
            Formatter("{message}", defaults={"message": "d"}).formatted(record_of(msg="{", args=(1,)))

    def test_the_first_from_the_left_is_told(self):
        record = record_of(msg="{", args=(1,))
        with self.assertRaises(BadField) as caught:
            Formatter("{name} {none} {message} {other}").formatted(record)
        self.assertEqual(caught.exception.name, "none")
        with self.assertRaises(BadMessage):
            Formatter("{name} {message} {none}").formatted(record)

    def test_the_message_is_only_made_where_a_field_asks_for_it(self):
        record = record_of({"x": 1}, "{", (1,))
        fmt = "{name} {levelno} {levelname} {msg} {args} {created} {msecs} {asctime} {x} {y}"
        text = Formatter(fmt, defaults={"y": 2}).formatted(record)
        self.assertEqual(text, "a.b 20 INFO { (1,) 0 0 1970-01-01 00:00:00,000 1 2")


class Names(unittest.TestCase):
    def test_fields_and_uses_time(self):
        for fmt, style, fields in (
            (None, "{", ("message",)), ("{a}", "{", ("a",)), ("{b} {a!r} {b:5}", "{", ("b", "a", "b")), ("{asctime}", "{", ("asctime",)),
            ("{a}{asctime!s:>30}{a}", "{", ("a", "asctime", "a")), ("{{asctime}}{a}", "{", ("a",)), ("{asctime_}", "{", ("asctime_",)),
            ("$a${b}$a", "$", ("a", "b", "a")), ("$asctime", "$", ("asctime",)), ("$asctimes", "$", ("asctimes",)),
            ("${asctime}s", "$", ("asctime",)), ("$$asctime $a", "$", ("a",)), ("{asctime}$a", "$", ("a",)), ("asctime {a}", "{", ("a",)),
        ):
            formatter = Formatter(fmt, style)
            self.assertEqual(formatter.fields(), fields)
            self.assertIs(type(formatter.fields()), tuple)
            self.assertIs(formatter.uses_time(), "asctime" in fields)

    def test_formatters_are_equal_only_to_themselves(self):
        self.assertNotEqual(Formatter("{a}"), Formatter("{a}"))
