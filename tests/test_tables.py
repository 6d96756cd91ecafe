"""[39] to [41]: mentions, bounds and tables."""

import unittest

from recordyard.differences import alike
from recordyard.errors import BadCuts
from recordyard.filters import Filter
from recordyard.handlers import NullHandler
from recordyard.judging import outcome
from recordyard.tables import bounds, mentions, table, told_by
from recordyard.yards import Yard
from tests.helpers import objects, standing
from tests.small import RECORDS, altered_at_random, yard_at_random
from tests.test_judging import lines

FIRST_BOUNDS = [1, 10, 11, 20, 21, 30, 31, 40, 41, 50, 51]


def as_lists(thing):
    """The same with lists for all tuples."""
    return [as_lists(one) for one in thing] if isinstance(thing, (list, tuple)) else thing


class Mentions(unittest.TestCase):
    def setUp(self):
        self.yard = Yard()

    def check(self, *names):
        before = standing(self.yard)
        self.assertEqual(mentions([self.yard]), list(names))
        self.assertEqual(mentions(yards=(self.yard,)), list(names))
        self.assertIs(type(mentions([self.yard])), list)
        self.assertEqual(standing(self.yard), before)

    def test_of_a_new_yard(self):
        self.check("")
        self.assertEqual(mentions([]), [""])

    def test_loggers_with_all_beginnings_in_their_order(self):
        for name in ("b", "aa", "ab.c", "a.b.c", "z"):
            self.yard.getLogger(name)
        self.check("", "a", "b", "z", "aa", "ab", "a.b", "ab.c", "a.b.c")

    def test_names_that_are_none_of_records(self):
        for name in ("A", "a1", "a_b", "root.x", "b.C.d", "c.d.E", "root"):
            self.yard.getLogger(name)
        self.check("", "b", "c", "c.d")

    def test_filters(self):
        self.yard.getLogger("x").addFilter(Filter("f.g"))
        self.yard.root.addHandler(lines(self.yard, filters=["h.i", "", "root", "root.b"]))
        null = NullHandler(self.yard)
        null.addFilter(Filter("n"))
        # Also where no record comes by.
        self.yard.getLogger("Q").addHandler(null)
        self.check("", "f", "h", "n", "x", "f.g", "h.i")

    def test_strange_names_of_filters(self):
        for name in ("a.", "b..c", ".d", "e f", "g.h i", "j.K", "l.root", "m\n", "o.p.", "q.2.r", "{", "."):
            self.yard.root.addFilter(Filter(name))
        self.check("", "a", "b", "g", "j", "l", "o", "q", "o.p", "l.root")

    def test_handlers_that_hang_on_no_logger(self):
        lines(self.yard, filters=["a"]).setName("x")
        self.check("")

    def test_of_several_yards(self):
        other = Yard()
        other.getLogger("b.a")
        self.yard.getLogger("c")
        self.assertEqual(mentions([self.yard, other, self.yard]), ["", "b", "c", "b.a"])
        self.assertEqual(mentions((other, Yard())), ["", "b", "b.a"])

    def test_what_is_returned_is_new(self):
        mentions([self.yard]).append("x")
        bounds([self.yard]).append(5)
        self.check("")
        self.assertEqual(bounds([self.yard]), FIRST_BOUNDS)


class Bounds(unittest.TestCase):
    def setUp(self):
        self.yard = Yard()

    def check(self, *more):
        before = standing(self.yard)
        told = bounds([self.yard])
        self.assertEqual(told, sorted(set(FIRST_BOUNDS) | set(more)))
        self.assertEqual(bounds(yards=(self.yard,)), told)
        self.assertEqual(standing(self.yard), before)

    def test_of_a_new_yard(self):
        self.check()
        self.assertEqual(bounds([]), [1, 30])

    def test_levels_of_loggers_and_their_handlers(self):
        self.yard.root.setLevel(5)
        self.yard.getLogger("A").setLevel(7)
        self.yard.getLogger("b").setLevel(-7)
        self.yard.getLogger("b").addHandler(lines(self.yard, level=33))
        self.yard.getLogger("A.b").addHandler(lines(self.yard, level=10 ** 18))
        lines(self.yard, level=44).setName("loose")
        self.check(5, 7, 33, 10 ** 18)

    def test_the_bar(self):
        for level, more in ((4, [5]), (0, []), (-1, []), (50, []), (51, [52])):
            self.yard.disable(level)
            self.check(*more)

    def test_names_of_levels(self):
        self.yard.add_level_name(60, "x")
        self.yard.add_level_name(3, "")
        self.yard.add_level_name(-4, "minus")
        self.check(60, 61, 3, 4)
        # A name that leads to another number by now does not count, but the number's name stays.
        self.yard.add_level_name(62, "x")
        self.check(60, 61, 62, 63, 3, 4)

    def test_of_several_yards(self):
        other = Yard()
        other.disable(70)
        self.yard.root.setLevel(80)
        self.assertEqual(bounds([self.yard, other]), FIRST_BOUNDS + [71, 80])


class Tables(unittest.TestCase):
    def setUp(self):
        self.yard = Yard()
        self.yard.root.setLevel(20)

    def rows(self, names=None, levels=None):
        before = standing(self.yard)
        names = mentions([self.yard]) if names is None else names
        levels = bounds([self.yard]) if levels is None else levels
        rows = table(self.yard, names, levels)
        self.assertEqual(table(yard=self.yard, names=tuple(names), levels=tuple(levels)), rows)
        self.assertEqual(standing(self.yard), before)
        spans = list(zip(levels, list(levels[1:]) + [None]))
        self.assertEqual([row[:2] for row in rows], [((name, below), span) for name in names for below in (False, True) for span in spans])
        return {row[:2]: row[2] for row in rows}

    def test_the_example(self):
        self.yard.root.addHandler(lines(self.yard, fmt="{levelname}:{message}"))
        self.assertEqual((mentions([self.yard]), bounds([self.yard])), ([""], FIRST_BOUNDS))
        rows = self.rows()
        self.assertEqual(rows[("", True), (21, 30)], [("out", ("Level ", ("level",), ":", ("message",), "\n"))])
        self.assertEqual(rows[("", True), (20, 21)], [("out", ("INFO:", ("message",), "\n"))])
        self.assertEqual(rows[("", True), (11, 20)], [])
        self.assertEqual(rows[("", False), (51, None)], [("out", ("Level ", ("level",), ":", ("message",), "\n"))])
        self.assertEqual(len(rows), 22)

    def test_kinds_of_what_is_returned(self):
        self.yard.root.addHandler(lines(self.yard, fmt="{name}{message}"))
        rows = table(self.yard, [""], FIRST_BOUNDS)
        self.assertIs(type(rows), list)
        for row in rows:
            self.assertEqual([type(part) for part in row], [tuple, tuple, list])
            self.assertIs(type(row[0][1]), bool)
            for pair in row[2]:
                self.assertEqual([type(pair), type(pair[0]), type(pair[1])], [tuple, str, tuple])
        rows[-1][2].clear()
        self.assertEqual(rows[-1][2], [])
        self.assertNotEqual(rows[-2][2], [])
        rows.clear()
        self.assertEqual(len(table(self.yard, [""], FIRST_BOUNDS)), 22)

    def test_names(self):
        self.yard.root.addHandler(lines(self.yard, fmt="{name}", terminator=""))
        self.yard.getLogger("a.b")
        rows = self.rows()
        for name, text in (("", "root"), ("a", "a"), ("a.b", "a.b")):
            self.assertEqual(rows[(name, False), (31, 40)], [("out", (text,))])
            self.assertEqual(rows[(name, True), (31, 40)], [("out", (("name",),))])

    def test_levels(self):
        self.yard.root.addHandler(lines(self.yard, fmt="{levelno}", terminator=""))
        self.yard.getLogger("a").addHandler(lines(self.yard, "a", "{levelname}", terminator=""))
        rows = self.rows(["", "a"], sorted(FIRST_BOUNDS + [32, 33, 45]))
        for span, number, name in (
            ((30, 31), ("30",), ("WARNING",)), ((31, 32), ("31",), ("Level 31",)), ((32, 33), ("32",), ("Level 32",)),
            ((33, 40), (("level",),), ("Level ", ("level",))), ((41, 45), (("level",),), ("Level ", ("level",))),
            ((51, None), (("level",),), ("Level ", ("level",))),
        ):
            self.assertEqual(rows[("a", True), span], [("a", name), ("out", number)])

    def test_texts_are_joined_and_empty_ones_left_out(self):
        self.yard.add_level_name(30, "")
        self.yard.root.addHandler(lines(self.yard, fmt="{levelname}", terminator=""))
        self.yard.getLogger("a").addHandler(lines(self.yard, "out", "x{levelname}y{{{name}", terminator=" "))
        self.yard.getLogger("a").addHandler(lines(self.yard, "out", "{message}{message}", terminator=""))
        self.yard.getLogger("a").addHandler(lines(self.yard, "none", "", terminator=""))
        rows = self.rows()
        self.assertEqual(rows[("", True), (30, 31)], [])
        self.assertEqual(rows[("a", False), (30, 31)], [("out", ("xy{a ", ("message",), ("message",)))])
        self.assertEqual(rows[("a", True), (30, 31)], [("out", ("xy{", ("name",), " ", ("message",), ("message",)))])
        self.assertEqual(rows[("a", True), (31, 40)], [("out", ("xLevel ", ("level",), "y{", ("name",), " ", ("message",), ("message",), "Level ", ("level",)))])

    def test_terminators(self):
        for text in ("", "\n", "--", "\n\n"):
            yard = self.yard = Yard()
            yard.root.addHandler(lines(yard, terminator=text))
            yard.root.addHandler(lines(yard, terminator=text))
            parts = (("message",), text, ("message",), text) if text else (("message",), ("message",))
            self.assertEqual(self.rows()[("", True), (30, 31)], [("out", parts)])

    def test_streams_are_ascending(self):
        for stream in ("b", "a", "", "B"):
            self.yard.root.addHandler(lines(self.yard, stream, stream, terminator="."))
        self.assertEqual(self.rows()[("", True), (30, 31)], [("", (".",)), ("B", ("B.",)), ("a", ("a.",)), ("b", ("b.",))])

    def test_the_last_resort(self):
        rows = self.rows()
        self.assertEqual(rows[("", False), (30, 31)], [("stderr", (("message",), "\n"))])
        self.assertEqual(rows[("", True), (21, 30)], [])

    def test_more_names_and_levels_than_are_needed(self):
        self.yard.root.addHandler(lines(self.yard, fmt="{name}", terminator=""))
        self.yard.getLogger("a").setLevel(40)
        rows = self.rows(["", "a", "b", "a.x", "b.c.d"], sorted(FIRST_BOUNDS + [2, 35, 1000]))
        self.assertEqual(rows[("a.x", False), (35, 40)], [])
        self.assertEqual(rows[("a.x", False), (41, 50)], [("out", ("a.x",))])
        self.assertEqual(rows[("b.c.d", True), (35, 40)], [("out", (("name",),))])
        self.assertEqual(rows[("b.c.d", True), (1, 2)], [])

    def test_names_and_levels_that_are_wrong(self):
        self.yard.getLogger("b.c")
        names, levels = ["", "b", "b.c"], list(FIRST_BOUNDS)
        self.assertEqual((mentions([self.yard]), bounds([self.yard])), (names, levels))
        wrong = [(one, levels) for one in objects()] + [(names, one) for one in objects()]
        for one in (
            [], [""], ["", "b"], ["b", "b.c"], ["", "b.c"], ["", "b.c", "b"], ["b", "", "b.c"], ["", "b", "b", "b.c"], ["", "", "b", "b.c"],
            ["", "b", "c", "aa", "b.c", "ab"], ["", "b", "B", "b.c"], ["", "b", "root", "b.c"], ["", "b", "b.c", "root.a"], ["", "b", "b.c", "b.1"],
            ["", "b", "b.c", "c."], ["", "b", "b.c", ".c"], ["", "b", "b.c", "x..y"], ["", "b", "b.c", 5], ["", "b", "b.c", None], ["", "b", ["b.c"]],
            [None, "", "b", "b.c"], {"": 1, "b": 2, "b.c": 3}, "b", ["", "b", "b.c", ("b.d",)], ["", "b", "b.c", "b d"],
        ):
            wrong.append((one, levels))
        for one in (
            [], levels[1:], levels[:-1], levels[:5] + levels[6:], levels + [51], [0] + levels, [-1] + levels, levels[::-1], levels + [52, 52],
            levels + [True], [True] + levels[1:], levels + [None], levels + ["60"], [1, 1] + levels[1:], levels + [[60]], {level: 1 for level in levels}, 51,
            levels + [60, 55],
        ):
            wrong.append((names, one))
        before = standing(self.yard)
        for one, two in wrong:
            for _ in range(2):
                with self.assertRaises(BadCuts):
                    table(self.yard, one, two)
        self.assertEqual(standing(self.yard), before)
        self.assertEqual(len(table(self.yard, names, levels)), 66)
        self.assertEqual(len(table(self.yard, ["", "b", "b.c", "b.root"], levels + [52])), 96)


class Told(unittest.TestCase):
    def test_of_an_example(self):
        yard = Yard()
        yard.root.addHandler(lines(yard, "out", "{name} {levelname} {levelno} {message}", terminator=""))
        yard.root.addHandler(lines(yard, "also", terminator=""))
        yard.getLogger("a.b").setLevel(60)
        rows = table(yard, mentions([yard]), bounds([yard]))
        for record, pairs in (
            (("", 30, "m"), [("also", "m"), ("out", "root WARNING 30 m")]), (("a", 31, ""), [("out", "a Level 31 31 ")]),
            (("a.b", 59, "m"), []), (("a.b.c", 60, "m"), [("also", "m"), ("out", "a.b.c Level 60 60 m")]), (("a.b.c.d", 59, "m"), []),
            (("a.c", 1000, "m"), [("also", "m"), ("out", "a.c Level 1000 1000 m")]), (("b", 29, "m"), []),
        ):
            for one in (rows, tuple(rows), as_lists(rows)):
                self.assertEqual(told_by(one, record), pairs)
                self.assertEqual(told_by(rows=one, record=list(record)), pairs)
                self.assertTrue(all(type(pair) is tuple for pair in told_by(one, record)))

    def test_rows_stay(self):
        yard = Yard()
        yard.root.addHandler(lines(yard))
        rows = as_lists(table(yard, [""], FIRST_BOUNDS))
        kept = as_lists(rows)
        told_by(rows, ("a", 30, "m")).clear()
        self.assertEqual((rows, told_by(rows, ("a", 30, "m"))), (kept, [("out", "m\n")]))

    def test_rows_in_another_order(self):
        yard = Yard()
        yard.root.addHandler(lines(yard, fmt="{name} {levelno}"))
        yard.getLogger("a").setLevel(40)
        rows = table(yard, mentions([yard]), bounds([yard]))[::-1]
        for record in RECORDS[::7]:
            self.assertEqual(told_by(rows, record), outcome(yard, record))

    def test_texts_that_look_like_marks(self):
        yard = Yard()
        yard.add_level_name(30, "name")
        yard.root.addHandler(lines(yard, fmt="name level {levelname} ('message',) {message}", terminator="message"))
        rows = table(yard, [""], FIRST_BOUNDS)
        self.assertEqual(told_by(as_lists(rows), ("a", 30, "m")), [("out", "name level name ('message',) mmessage")])

    def test_small_yards_all_rows_tell_what_the_yard_does(self):
        for seed in range(40):
            yard = yard_at_random(seed)
            names, levels = mentions([yard]), bounds([yard])
            rows = table(yard, names, levels)
            more = table(yard, sorted(set(names) | {"c.a", "q"}, key=lambda name: (name.count(".") + (name != ""), len(name), name)), levels + [levels[-1] + 7])
            for record in RECORDS[seed % 23::23]:
                pairs = outcome(yard, record)
                self.assertEqual(told_by(rows, record), pairs, (seed, record))
                self.assertEqual(told_by(more, record), pairs, (seed, record))

    def test_small_yards_are_alike_just_if_their_tables_are_equal(self):
        seen = set()
        for seed in range(300):
            one = yard_at_random(seed)
            other = altered_at_random(one, seed)
            names, levels = mentions([one, other]), bounds([one, other])
            same = table(one, names, levels) == table(other, names, levels)
            self.assertEqual(alike(one, other), same, seed)
            seen.add(same)
        self.assertEqual(seen, {True, False})
