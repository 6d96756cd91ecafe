"""[43]: deeds, and which of them matter."""

import unittest

from recordyard.deeds import deeds, done, idle
from recordyard.differences import difference
from recordyard.errors import BadDeed, NotJudged
from recordyard.filters import Filter
from recordyard.formatters import Formatter
from recordyard.handlers import NullHandler
from recordyard.judging import outcome
from recordyard.yards import Yard
from tests.helpers import Asked, objects, one_of_each, standing
from tests.small import yard_at_random
from tests.test_judging import lines


def state(yard):
    """What deeds are about, without the things themselves."""
    loggers = []
    for name in [""] + yard.loggers():
        one = yard.getLogger(name)
        handlers = [(handler.level, [str(getattr(each, "name", each)) for each in handler.filters]) for handler in one.handlers]
        loggers.append([name, one.level, one.propagate, one.disabled, [str(getattr(each, "name", each)) for each in one.filters], handlers])
    return [yard.bar(), loggers]


class Deeds(unittest.TestCase):
    def setUp(self):
        self.yard = Yard()

    def check(self, *expected):
        before = standing(self.yard)
        told = deeds(self.yard)
        self.assertEqual((told, deeds(yard=self.yard)), (list(expected), list(expected)))
        self.assertEqual(told, sorted(told))
        self.assertTrue(type(told) is list and all(type(deed) is tuple for deed in told))
        told.clear()
        self.assertEqual((deeds(self.yard), standing(self.yard)), (list(expected), before))


class All(Deeds):
    def test_of_a_new_yard(self):
        self.check(("level", ""))
        self.yard.root.setLevel(0)
        self.check()

    def test_each_kind(self):
        yard = self.yard
        yard.disable(5)
        yard.root.setDisabled(True)
        yard.root.setPropagate(False)
        yard.getLogger("a").setLevel(-3)
        yard.getLogger("a").setPropagate(False)
        yard.getLogger("B.1").setDisabled(True)
        yard.getLogger("root.x")
        for name in ("", "a"):
            yard.getLogger(name).addFilter(Filter("x"))
        yard.root.addFilter(Filter("x"))
        yard.getLogger("a").addHandler(lines(yard, level=7, filters=["p", "q"]))
        yard.getLogger("a").addHandler(NullHandler(yard))
        self.check(
            ("bar",), ("disabled", ""), ("disabled", "B.1"), ("filter", "", 0), ("filter", "", 1), ("filter", "a", 0),
            ("filter", "a", 0, 0), ("filter", "a", 0, 1), ("handler", "a", 0), ("handler", "a", 1), ("level", ""), ("level", "a"),
            ("level", "a", 0), ("propagate", ""), ("propagate", "a"),
        )

    def test_a_bar_below_0(self):
        self.yard.disable(-1)
        self.check(("bar",), ("level", ""))
        self.yard.disable(0)
        self.check(("level", ""))

    def test_a_handler_that_hangs_on_two_loggers(self):
        handler = lines(self.yard, level=5, filters=["x"])
        for name in ("b", ""):
            self.yard.getLogger(name).addHandler(handler)
        self.yard.getLogger("b").addHandler(NullHandler(self.yard))
        self.check(
            ("filter", "", 0, 0), ("filter", "b", 0, 0), ("handler", "", 0), ("handler", "b", 0), ("handler", "b", 1), ("level", ""),
            ("level", "", 0), ("level", "b", 0),
        )
        other = done(self.yard, ("filter", "b", 0, 0))
        self.assertEqual(deeds(other), [deed for deed in deeds(self.yard) if deed[0] != "filter"])
        other = done(self.yard, ("level", "", 0))
        self.assertEqual(deeds(other), [deed for deed in deeds(self.yard) if len(deed) != 3 or deed[0] != "level"])
        other = done(self.yard, ("handler", "b", 0))
        self.assertEqual([len(other.getLogger(name).handlers) for name in ("", "b")], [1, 1])
        self.assertEqual(type(other.getLogger("b").handlers[0]), NullHandler)

    def test_yards_that_are_not_judged(self):
        for handler in one_of_each(self.yard):
            handler.addFilter(Asked())
            self.yard.root.addHandler(handler)
        self.yard.root.addFilter(Asked())
        told = deeds(self.yard)
        self.assertEqual(len(told), 22)
        for deed in told:
            self.assertEqual(len(deeds(done(self.yard, deed))), 20 if deed[0] == "handler" else 21)

    def test_handlers_that_hang_on_no_logger(self):
        lines(self.yard, level=5, filters=["x"]).setName("x")
        self.check(("level", ""))


class Done(Deeds):
    def setUp(self):
        super().setUp()
        yard = self.yard
        yard.disable(5)
        yard.root.setLevel(0)
        yard.getLogger("a").setLevel(3)
        yard.getLogger("a").setPropagate(False)
        yard.getLogger("a").setDisabled(True)
        for name in ("x", "y", "z"):
            yard.getLogger("a").addFilter(Filter(name))
        yard.root.addHandler(lines(yard, level=7))
        yard.root.addHandler(lines(yard, filters=["p", "q"], level=8))
        yard.getLogger("b")

    def change(self, deed, *steps):
        """Doing the deed changes just what the steps lead to, each one the places and the value there."""
        before, kept = standing(self.yard), state(self.yard)
        self.assertIn(deed, deeds(self.yard))
        for told in (done(self.yard, deed), done(self.yard, list(deed)), done(deed=deed, yard=self.yard)):
            expected = state(self.yard)
            for places, value in steps:
                part = expected
                for place in places[:-1]:
                    part = part[place]
                part[places[-1]] = value
            self.assertEqual(state(told), expected)
        self.assertEqual((standing(self.yard), state(self.yard)), (before, kept))
        self.assertNotIn(deed if deed[0] not in ("filter", "handler") else None, deeds(told))

    def test_each_kind(self):
        self.change(("bar",), ((0,), 0))
        self.change(("disabled", "a"), ((1, 1, 3), False))
        self.change(("propagate", "a"), ((1, 1, 2), True))
        self.change(("level", "a"), ((1, 1, 1), 0))
        self.change(("filter", "a", 1), ((1, 1, 4), ["x", "z"]))
        self.change(("filter", "a", 0), ((1, 1, 4), ["y", "z"]))
        self.change(("level", "", 0), ((1, 0, 5), [(0, []), (8, ["p", "q"])]))
        self.change(("level", "", 1), ((1, 0, 5), [(7, []), (0, ["p", "q"])]))
        self.change(("filter", "", 1, 1), ((1, 0, 5), [(7, []), (8, ["p"])]))
        self.change(("handler", "", 0), ((1, 0, 5), [(8, ["p", "q"])]))
        self.change(("handler", "", 1), ((1, 0, 5), [(7, [])]))

    def test_of_the_root(self):
        self.yard.root.setLevel(4)
        self.yard.root.setDisabled(True)
        self.yard.root.setPropagate(False)
        self.yard.root.addFilter(Filter("r"))
        self.change(("level", ""), ((1, 0, 1), 0))
        self.change(("disabled", ""), ((1, 0, 3), False))
        self.change(("propagate", ""), ((1, 0, 2), True))
        self.change(("filter", "", 0), ((1, 0, 4), []))

    def test_the_copy_is_its_own(self):
        other = done(self.yard, ("bar",))
        other.root.setLevel(9)
        other.getLogger("new")
        self.assertEqual((self.yard.root.level, self.yard.loggers(), self.yard.bar()), (0, ["a", "b"], 5))

    def test_objects_that_are_none_of_its_deeds(self):
        before = standing(self.yard)
        bad = objects() + [
            ("bar", ""), ("bar", 0), ["bar", None], ("Bar",), "bar", ("bar",) * 2, (), [], ("level", ""), ("level", "root"), ("level", "b"), ("level", "c"),
            ("level", "a", 0), ("level", "", 2), ("level", "", -1), ("level", "", True), ("level", "", False), ("level", "", "0"), ("level", "", None),
            ("level", "", 0, 0), ("disabled", ""), ("disabled", "b"), ("disabled",), ("disabled", None), ("disabled", 0), ("propagate", ""), ("propagate", "root"),
            ("filter", "a", 3), ("filter", "a", -1), ("filter", "a", True), ("filter", "a", False), ("filter", "a", "0"), ("filter", "a"), ("filter", "a", 0, 0),
            ("filter", "", 0), ("filter", "", 1, 2), ("filter", "", 1, -1), ("filter", "", True, 0), ("filter", "", 1, True), ("filter", "", 1, False),
            ("filter", "", 0, 0), ("filter", "", 2, 0), ("filter", "", 1, 0, 0), ("handler", "", 2), ("handler", "", -1), ("handler", "", False), ("handler", "b", 0),
            ("handler", "root", 0), ("handler", ""), ("handler", "a", 0), ("handlers", "", 0), (["bar"],), (("bar",),), [["level", "a"]], ("level", ["a"]),
            {"bar": 0}, ["filter", "a", [0]], ("filter", {}, 0), 5, True, None, ("level", "a", None), (None,), (0,), ("", "", ""), [["bar"], ("bar",)],
        ]
        for thing in bad:
            for _ in range(2):
                with self.assertRaises(BadDeed) as caught:
                    done(self.yard, thing)
                self.assertIs(caught.exception.deed, thing)
        self.assertEqual(standing(self.yard), before)

    def test_deeds_of_another_yard(self):
        other = Yard()
        with self.assertRaises(BadDeed):
            done(other, ("bar",))
        self.assertEqual(done(other, ("level", "")).root.level, 0)


class Idle(Deeds):
    def check_idle(self, yard):
        before = standing(yard)
        told = idle(yard)
        self.assertEqual(idle(yard=yard), told)
        self.assertEqual([pair[0] for pair in told], deeds(yard))
        self.assertTrue(type(told) is list and all(type(pair) is tuple for pair in told))
        for deed, record in told:
            other = done(yard, deed)
            self.assertEqual(record, difference(yard, other))
            if record is not None:
                self.assertNotEqual(outcome(yard, record), outcome(other, record))
        self.assertEqual(standing(yard), before)
        return dict(told)

    def test_of_a_new_yard(self):
        # With the last resort alone, the level of the root does not matter.
        self.assertEqual(idle(self.yard), [(("level", ""), None)])
        self.yard.root.setLevel(0)
        self.assertEqual(idle(self.yard), [])

    def test_an_example(self):
        yard = self.yard
        yard.root.setLevel(20)
        yard.disable(10)
        yard.root.addHandler(lines(yard, level=20, filters=["", "a"]))
        yard.root.addHandler(lines(yard, "b", level=30))
        yard.getLogger("a").setLevel(20)
        yard.getLogger("a").setPropagate(False)
        yard.getLogger("a").addHandler(yard.root.handlers[0])
        yard.getLogger("a.b").setLevel(25)
        yard.getLogger("a.b").addFilter(Filter("a"))
        yard.getLogger("a.c").addFilter(Filter("b"))
        yard.getLogger("c").setDisabled(True)
        yard.getLogger("Q").setDisabled(True)
        self.assertEqual(self.check_idle(yard), {
            ("bar",): None, ("disabled", "Q"): None, ("disabled", "c"): ("c", 30, ""), ("filter", "", 0, 0): None,
            ("filter", "", 0, 1): ("", 20, ""), ("filter", "a", 0, 0): None, ("filter", "a", 0, 1): ("", 20, ""), ("filter", "a.b", 0): None,
            ("filter", "a.c", 0): ("a.c", 20, ""), ("handler", "", 0): None, ("handler", "", 1): ("", 30, ""), ("handler", "a", 0): ("a", 20, ""),
            ("level", ""): None, ("level", "", 0): None, ("level", "", 1): ("", 20, ""), ("level", "a"): None,
            ("level", "a", 0): None, ("level", "a.b"): ("a.b", 20, ""), ("propagate", "a"): ("a", 20, ""),
        })

    def test_yards_that_are_not_judged(self):
        self.yard.getLogger("a").addHandler(lines(self.yard))
        self.yard.getLogger("a").handlers[0].setFormatter(Formatter("{msg}"))
        for _ in range(2):
            with self.assertRaises(NotJudged) as caught:
                idle(self.yard)
            self.assertEqual(caught.exception.path, ("a", "handlers", 0, "formatter"))

    def test_small_yards(self):
        for seed in range(40):
            self.check_idle(yard_at_random(seed))
