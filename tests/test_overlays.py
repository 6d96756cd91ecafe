"""[44]: entries, their settings, and the least ones that make one yard alike to another one."""

import random
import unittest

from recordyard.changes import laid
from recordyard.copies import copied
from recordyard.differences import alike
from recordyard.errors import NotJudged
from recordyard.filters import Filter
from recordyard.handlers import NullHandler
from recordyard.overlays import overlaid, overlay
from recordyard.settings import wrong
from recordyard.yards import Yard
from tests.helpers import Asked, all_loggers, standing
from tests.small import altered_at_random, yard_at_random
from tests.test_judging import lines


def entries_of(yard, goal):
    """All entries of a yard and a goal, word for word."""
    loggers = all_loggers(yard) + all_loggers(goal)
    values = {0} | {one.level for one in loggers} | {handler.level for one in loggers for handler in one.handlers}
    hung = [handler for one in all_loggers(yard) for handler in one.handlers]
    names = set(yard.loggers()) | set(goal.loggers())
    entries = [("handlers", name, "level", value) for name in yard.getHandlerNames() if yard.getHandlerByName(name) in hung for value in values]
    entries += [("loggers", name, "level", value) for name in names for value in values]
    entries += [("loggers", name, "propagate", flag) for name in names for flag in (False, True)]
    return sorted(entries + [("root", "level", value) for value in values])


def overlay_by_trying(yard, goal):
    """What overlay shall return, found by laying each list of entries over the yard."""
    if alike(yard, goal):
        return []
    entries = entries_of(yard, goal)
    for entry in entries:
        if alike(laid(yard, overlaid([entry])), goal):
            return [entry]
    for place, entry in enumerate(entries):
        for later in entries[place + 1:]:
            if entry[:-1] != later[:-1] and alike(laid(yard, overlaid([entry, later])), goal):
                return [entry, later]
    return None


class Overlaid(unittest.TestCase):
    def check(self, entries, **parts):
        expected = {"version": 1, "incremental": True} | parts
        kept = list(entries)
        for told in (overlaid(entries), overlaid(entries=tuple(entries)), overlaid([list(entry) for entry in entries])):
            self.assertEqual(told, expected)
            self.assertIs(told["incremental"], True)
            self.assertIs(type(told["version"]), int)
        self.assertEqual(entries, kept)

    def test_no_entries(self):
        self.check([])

    def test_each_kind(self):
        self.check([("root", "level", 5)], root={"level": 5})
        self.check([("root", "level", 0)], root={"level": 0})
        self.check([("handlers", "h", "level", 5)], handlers={"h": {"level": 5}})
        self.check([("loggers", "a.b", "level", 0)], loggers={"a.b": {"level": 0}})
        self.check([("loggers", "a", "propagate", False)], loggers={"a": {"propagate": False}})
        self.check([("loggers", "a", "propagate", True)], loggers={"a": {"propagate": True}})

    def test_several(self):
        self.check([("loggers", "a", "level", 5), ("loggers", "a", "propagate", True)], loggers={"a": {"level": 5, "propagate": True}})
        self.check([("loggers", "a", "level", 5), ("loggers", "b", "level", 6)], loggers={"a": {"level": 5}, "b": {"level": 6}})
        self.check([("handlers", "root", "level", 5), ("root", "level", 6)], handlers={"root": {"level": 5}}, root={"level": 6})
        self.check(
            [("root", "level", 1), ("loggers", "b", "propagate", False), ("handlers", "y", "level", 2), ("handlers", "x", "level", 3), ("loggers", "b", "level", 4)],
            root={"level": 1}, loggers={"b": {"propagate": False, "level": 4}}, handlers={"y": {"level": 2}, "x": {"level": 3}},
        )

    def test_what_is_returned_is_new(self):
        entries = [("loggers", "a", "level", 5)]
        overlaid(entries)["loggers"]["a"]["level"] = 6
        self.check(entries, loggers={"a": {"level": 5}})


class Overlays(unittest.TestCase):
    def setUp(self):
        self.yard = Yard()
        self.yard.root.setLevel(20)
        handler = lines(self.yard)
        handler.setName("h")
        self.yard.root.addHandler(handler)

    def check(self, goal, *entries, yard=None, none=False):
        yard = self.yard if yard is None else yard
        before = standing(yard), standing(goal)
        told = overlay(yard, goal)
        self.assertEqual(told, None if none else list(entries))
        self.assertEqual(overlay(goal=goal, yard=yard), told)
        self.assertEqual(overlay_by_trying(yard, goal), told)
        if told is not None:
            self.assertTrue(type(told) is list and all(type(entry) is tuple for entry in told))
            self.assertEqual(told, sorted(told))
            settings = overlaid(told)
            self.assertIsNone(wrong(yard, settings))
            self.assertTrue(alike(laid(yard, settings), goal))
        self.assertEqual((standing(yard), standing(goal)), before)

    def goal(self, *changes):
        goal = copied(self.yard)
        for change in changes:
            change(goal)
        return goal

    def test_yards_that_are_alike(self):
        self.check(self.yard)
        self.check(self.goal())
        self.check(self.goal(lambda goal: goal.getLogger("a.b"), lambda goal: goal.root.addFilter(Filter())))
        self.check(Yard(), yard=Yard())

    def test_one_entry(self):
        self.check(self.goal(lambda goal: goal.root.setLevel(5)), ("root", "level", 5))
        self.check(self.goal(lambda goal: goal.root.setLevel(0)), ("root", "level", 0))
        self.check(self.goal(lambda goal: goal.getLogger("a").setLevel(25)), ("loggers", "a", "level", 25))
        self.check(self.goal(lambda goal: goal.getLogger("a").setPropagate(False)), ("loggers", "a", "propagate", False))
        self.check(self.goal(lambda goal: goal.getHandlerByName("h").setLevel(40)), ("handlers", "h", "level", 40))
        self.yard.getLogger("a").setPropagate(False)
        self.check(self.goal(lambda goal: goal.getLogger("a").setPropagate(True)), ("loggers", "a", "propagate", True))

    def test_the_least_of_several_single_ones(self):
        # Raising the handler does what raising the root does, and comes first.
        goal = self.goal(lambda goal: goal.root.setLevel(40))
        self.check(goal, ("handlers", "h", "level", 40))
        self.yard.getHandlerByName("h").setName(None)
        self.check(self.goal(lambda goal: goal.root.setLevel(40)), ("root", "level", 40))

    def test_the_least_value_of_several(self):
        self.yard.getHandlerByName("h").setLevel(30)
        self.yard.getLogger("Z").setLevel(10)
        goal = self.goal(lambda goal: goal.getHandlerByName("h").setLevel(20))
        self.check(goal, ("handlers", "h", "level", 0))

    def test_two_entries(self):
        self.check(
            self.goal(lambda goal: goal.root.setLevel(5), lambda goal: goal.getLogger("a").setLevel(30)), ("loggers", "a", "level", 30), ("root", "level", 5),
        )
        goal = self.goal(lambda goal: goal.getLogger("a").setPropagate(False), lambda goal: goal.getLogger("b").setPropagate(False))
        self.check(goal, ("loggers", "a", "propagate", False), ("loggers", "b", "propagate", False))

    def test_two_entries_for_two_things_of_one_logger(self):
        self.yard.getLogger("a").addHandler(lines(self.yard, "a"))
        goal = self.goal(lambda goal: goal.getLogger("a").setLevel(5), lambda goal: goal.getLogger("a").setPropagate(False))
        self.check(goal, ("loggers", "a", "level", 5), ("loggers", "a", "propagate", False))

    def test_one_entry_is_shorter_than_two_lesser_ones(self):
        # With two entries the handler could be raised, and a new logger set; the root alone does it, too.
        goal = self.goal(lambda goal: goal.root.setLevel(5))
        goal.getLogger("a").setLevel(5)
        self.check(goal, ("root", "level", 5))

    def test_none_does_it(self):
        self.check(self.goal(lambda goal: goal.root.setDisabled(True)), none=True)
        self.check(self.goal(lambda goal: goal.root.handlers[0].setTerminator("")), none=True)
        self.check(self.goal(*[lambda goal, name=name: goal.getLogger(name).setPropagate(False) for name in "abc"]), none=True)
        self.check(self.goal(lambda goal: goal.disable(20)), none=True)
        self.check(self.goal(lambda goal: goal.root.addHandler(lines(goal, "more"))), none=True)

    def test_levels_come_from_both_yards(self):
        self.yard.getLogger("a").setLevel(33)
        self.yard.getLogger("B").setLevel(44)
        goal = self.goal(lambda goal: goal.root.setLevel(44))
        goal.getLogger("a").setLevel(33)
        # Raising the handler would part them for the logger a.
        self.check(goal, ("root", "level", 44))
        one, two = Yard(), Yard()
        for yard, level in ((one, 20), (two, 25)):
            yard.root.addHandler(lines(yard))
            yard.root.setLevel(20)
            yard.getLogger("x").setLevel(level)
        self.check(two, ("loggers", "x", "level", 25), yard=one)
        self.check(one, ("loggers", "x", "level", 0), yard=two)

    def test_a_level_that_none_of_them_has(self):
        # The bar lets by what the level 36 lets by, but no logger and no handler has this level.
        goal = self.goal(lambda goal: goal.disable(35))
        self.check(goal, none=True)
        self.yard.getLogger("a.b").setLevel(36)
        goal = self.goal(lambda goal: goal.disable(35))
        self.check(goal, ("handlers", "h", "level", 36))

    def test_loggers_that_only_one_of_them_has(self):
        self.yard.getLogger("a").setLevel(40)
        self.check(Yard(), none=True)
        goal = Yard()
        goal.root.setLevel(20)
        goal.root.addHandler(lines(goal))
        self.check(goal, ("loggers", "a", "level", 0))
        goal.getLogger("c.d").setLevel(40)
        self.check(goal, ("loggers", "a", "level", 0), ("loggers", "c.d", "level", 40))
        self.check(self.yard, ("loggers", "a", "level", 40), ("loggers", "c.d", "level", 0), yard=goal)

    def test_names_that_lead_to_handlers_that_hang_nowhere(self):
        loose = lines(self.yard, "loose", level=99)
        loose.setName("loose")
        self.yard.getHandlerByName("h").setName(None)
        goal = self.goal(lambda goal: goal.root.handlers[0].setLevel(40))
        self.check(goal, ("root", "level", 40))
        self.yard.root.setLevel(0)
        goal = self.goal(lambda goal: goal.root.handlers[0].setLevel(40))
        self.yard.getLogger("a").setLevel(5)
        self.check(goal, ("loggers", "a", "level", 0), ("root", "level", 40))

    def test_names_that_lead_elsewhere(self):
        # The handler at the root has a name that leads to another one by now.
        other = NullHandler(self.yard)
        other.setName("h")
        goal = self.goal(lambda goal: goal.root.handlers[0].setLevel(40))
        self.check(goal, ("root", "level", 40))
        self.yard.root.addHandler(other)
        goal = self.goal(lambda goal: goal.root.handlers[0].setLevel(40))
        self.check(goal, ("root", "level", 40))

    def test_handlers_of_the_goal_are_none(self):
        self.yard.getHandlerByName("h").setName(None)
        goal = self.goal(lambda goal: goal.root.handlers[0].setLevel(40), lambda goal: goal.root.handlers[0].setName("g"))
        self.check(goal, ("root", "level", 40))

    def test_a_handler_on_several_loggers(self):
        handler = self.yard.getHandlerByName("h")
        self.yard.getLogger("a").addHandler(handler)
        self.yard.getLogger("a").setPropagate(False)
        self.check(self.goal(lambda goal: goal.getHandlerByName("h").setLevel(50)), ("handlers", "h", "level", 50))

    def test_handlers_on_loggers_that_no_record_reaches(self):
        handler = lines(self.yard, level=7)
        handler.setName("a")
        self.yard.getLogger("A").addHandler(handler)
        self.check(self.goal(lambda goal: goal.root.setLevel(5)), ("root", "level", 5))
        self.check(self.goal(lambda goal: goal.root.setLevel(7)), ("root", "level", 7))

    def test_yards_that_are_not_judged(self):
        bad, worse = Yard(), Yard()
        bad.getLogger("b").addFilter(Asked())
        worse.getLogger("c").addFilter(Asked())
        for yard, goal, path in ((bad, self.yard, "b"), (self.yard, bad, "b"), (bad, worse, "b"), (worse, bad, "c")):
            for _ in range(2):
                with self.assertRaises(NotJudged) as caught:
                    overlay(yard, goal)
                self.assertEqual(caught.exception.path, (path, "filters", 0))

    def test_small_yards(self):
        for seed in range(150):
            yard = yard_at_random(seed)
            goal = altered_at_random(yard, seed)
            if len(set(yard.loggers()) | set(goal.loggers()) | set(yard.getHandlerNames())) <= 4:
                self.assertEqual(overlay(yard, goal), overlay_by_trying(yard, goal), seed)

    def busy_yard(self, chance):
        """A yard in which each level and each way matters for some record."""
        yard = Yard()
        yard.root.setLevel(chance.choice([5, 20]))
        handlers = [lines(yard, stream, "{name} {levelno}", level=chance.choice([0, 0, 30])) for stream in ("x", "y")]
        handlers[0].setName("h")
        yard.root.addHandler(handlers[0])
        for name in ("a", "a.b", "c"):
            if chance.random() < 0.7:
                yard.getLogger(name).setLevel(chance.choice([0, 0, 5, 30]))
                yard.getLogger(name).setPropagate(chance.random() < 0.7)
                yard.getLogger(name).addHandler(chance.choice(handlers))
        return yard

    def test_busy_yards(self):
        seen = {}
        for seed in range(120):
            chance = random.Random(seed)
            yard = self.busy_yard(chance)
            goal = copied(yard)
            goal.getLogger("c").setPropagate(chance.random() < 0.7)
            goal = laid(goal, overlaid(chance.sample(entries_of(yard, goal), chance.randrange(1, 4))))
            told = overlay(yard, goal)
            self.assertEqual(told, overlay_by_trying(yard, goal), seed)
            size = None if told is None else len(told)
            seen[size] = seen.get(size, 0) + 1
        self.assertGreater(min(seen.get(size, 0) for size in (0, 1, 2, None)), 4, seen)
