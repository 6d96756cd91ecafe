"""[14] to [19]: loggers and their tree."""

import unittest

from recordyard.errors import BadExtra, BadLevel, BadMessage, BadName
from recordyard.filters import Filter
from recordyard.loggers import Logger
from recordyard.yards import Yard
from tests.helpers import keeper, objects

FIVE = (("debug", 10), ("info", 20), ("warning", 30), ("error", 40), ("critical", 50))
WRONG_PARTS = [
    ".", "..", "a.", ".a", "a..b", " ", "a b", " a", "a ", "a-b", "a/b", "a.b.", ".a.b", "a\n", "\n", "a:b", "a$", "{}", "a@b", "`", "[",
    "/", "a.b c.d", "a. ", "*", "a.-",
]


class WithYard(unittest.TestCase):
    def setUp(self):
        self.yard = Yard()
        self.root = self.yard.root

    def get(self, *names):
        return [self.yard.getLogger(name) for name in names]


class Names(WithYard):
    def test_a_new_yard_has_the_root_alone(self):
        self.assertEqual(self.yard.loggers(), [])
        self.assertEqual(self.root.name, "root")

    def test_names_of_the_root(self):
        self.assertIs(self.yard.getLogger(), self.root)
        for name in ("", "root"):
            self.assertIs(self.yard.getLogger(name=name), self.root)
        self.assertEqual(self.yard.loggers(), [])

    def test_the_same_logger_for_the_same_name(self):
        for name in ("a", "Z9_", "_", "0", "9a", "a.b", "a.b.c", "A", "root.a", "roots", "a.root", "1.2.3", "a.b.c.d.e.f.g.h"):
            logger = self.yard.getLogger(name)
            self.assertIsInstance(logger, Logger)
            self.assertEqual(logger.name, name)
            self.assertIs(self.yard.getLogger(name), logger)
            self.assertIs(logger.yard, self.yard)

    def test_other_names_are_other_loggers(self):
        loggers = self.get("a", "A", "a.b", "b", "root.a", "")
        for one in loggers:
            self.assertEqual([one == other for other in loggers].count(True), 1)
        self.assertIsNot(Yard().getLogger("a"), loggers[0])

    def test_loggers_are_told_ascending_without_the_root(self):
        self.get("b", "a.c", "", "a", "B", "root", "root.a", "_", "9", "a.b", "b", "a_")
        names = ["9", "B", "_", "a", "a.b", "a.c", "a_", "b", "root.a"]
        self.assertEqual(self.yard.loggers(), names)
        self.yard.loggers().clear()
        self.assertEqual(self.yard.loggers(), names)

    def test_gaps_are_no_loggers(self):
        self.get("a.b.c")
        self.assertEqual(self.yard.loggers(), ["a.b.c"])

    def test_wrong_names(self):
        wrong = [thing for thing in objects() if not isinstance(thing, str)]
        for name in wrong + WRONG_PARTS:
            with self.assertRaises(BadName) as caught:
                self.yard.getLogger(name)
            self.assertIs(caught.exception.name, name)
        self.assertEqual(self.yard.loggers(), [])


class Attributes(WithYard):
    def test_of_the_root(self):
        root = self.root
        told = (root.yard, root.name, root.level, root.propagate, root.disabled, root.handlers, root.filters, root.parent)
        self.assertEqual(told, (self.yard, "root", 30, True, False, [], [], None))

    def test_of_others(self):
        one = self.yard.getLogger("a")
        told = (one.yard, one.name, one.level, one.propagate, one.disabled, one.handlers, one.filters, one.parent)
        self.assertEqual(told, (self.yard, "a", 0, True, False, [], [], self.root))
        for flag in (one.propagate, one.disabled):
            self.assertIs(type(flag), bool)

    def test_loggers_share_nothing(self):
        one, other = self.get("a", "a.b")
        one.addHandler(keeper(self.yard))
        one.addFilter(Filter())
        self.assertEqual((other.handlers, other.filters, self.root.handlers, self.root.filters), ([], [], [], []))

    def test_set_level(self):
        self.yard.add_level_name(25, "NOTE")
        for logger in (self.root, self.yard.getLogger("a")):
            for level, number in ((5, 5), ("NOTE", 25), (-3, -3), ("WARN", 30), (0, 0), ("NOTSET", 0), ("FATAL", 50)):
                self.assertIsNone(logger.setLevel(level))
                self.assertEqual(logger.level, number)
            logger.setLevel(level="INFO")
            self.yard.add_level_name(21, "INFO")
            self.assertEqual(logger.level, 20)
            self.yard.add_level_name(20, "INFO")

    def test_set_level_refuses_other_objects(self):
        logger = self.yard.getLogger("a")
        logger.setLevel(7)
        for level in [thing for thing in objects() if type(thing) is not int] + ["info", "Level 5", "5"]:
            with self.assertRaises(BadLevel) as caught:
                logger.setLevel(level)
            self.assertIs(caught.exception.level, level)
            self.assertEqual(logger.level, 7)

    def test_set_propagate_and_disabled(self):
        logger = self.yard.getLogger("a")
        for flag in (False, True, True, False):
            self.assertIsNone(logger.setPropagate(flag))
            self.assertIs(logger.propagate, flag)
            self.assertIsNone(logger.setDisabled(flag=not flag))
            self.assertIs(logger.disabled, not flag)
        logger.setPropagate(flag=True)
        self.assertIs(logger.propagate, True)


class Parents(WithYard):
    def parents(self):
        loggers = self.get(*self.yard.loggers())
        return {logger.name: logger.parent.name for logger in loggers}

    def test_without_gaps(self):
        self.get("a", "a.b", "a.b.c", "b")
        self.assertEqual(self.parents(), {"a": "root", "a.b": "a", "a.b.c": "a.b", "b": "root"})

    def test_with_gaps(self):
        self.get("a", "a.b.c.d", "x.y.z")
        self.assertEqual(self.parents(), {"a": "root", "a.b.c.d": "a", "x.y.z": "root"})
        self.assertIs(self.yard.getLogger("x.y.z").parent, self.root)

    def test_names_that_only_begin_alike(self):
        self.get("a", "ab", "ab.c", "a.b", "a.bc", "a_.b", "a.b_.c", "x.ab")
        self.assertEqual(self.parents(), {
            "a": "root", "ab": "root", "ab.c": "ab", "a.b": "a", "a.bc": "a", "a_.b": "root", "a.b_.c": "a", "x.ab": "root",
        })

    def test_names_below_the_word_root(self):
        self.get("root.a.b", "root.a", "roots")
        self.assertEqual(self.parents(), {"root.a.b": "root.a", "root.a": "root", "roots": "root"})
        self.assertIs(self.yard.getLogger("root.a").parent, self.root)

    def test_loggers_made_between_others(self):
        self.get("a.b.c.d", "a.b.c.e", "a.b.cd", "a.x", "z.b.c")
        self.assertEqual(set(self.parents().values()), {"root"})
        self.get("a.b")
        self.assertEqual(self.parents(), {
            "a.b.c.d": "a.b", "a.b.c.e": "a.b", "a.b.cd": "a.b", "a.x": "root", "a.b": "root", "z.b.c": "root",
        })
        self.get("a")
        self.assertEqual(self.parents(), {
            "a.b.c.d": "a.b", "a.b.c.e": "a.b", "a.b.cd": "a.b", "a.x": "a", "a.b": "a", "a": "root", "z.b.c": "root",
        })
        self.get("a.b.c")
        self.assertEqual(self.parents(), {
            "a.b.c.d": "a.b.c", "a.b.c.e": "a.b.c", "a.b.cd": "a.b", "a.b.c": "a.b", "a.x": "a", "a.b": "a", "a": "root", "z.b.c": "root",
        })

    def test_every_order_leads_to_the_same_parents(self):
        names = ["a", "a.b", "a.b.c", "a.b.c.d", "ab", "ab.c.d", "b.c"]
        expected = {"a": "root", "a.b": "a", "a.b.c": "a.b", "a.b.c.d": "a.b.c", "ab": "root", "ab.c.d": "ab", "b.c": "root"}
        for turn in range(7):
            for order in (names[turn:] + names[:turn], names[turn::-1] + names[:turn:-1]):
                self.yard = Yard()
                self.get(*order)
                self.assertEqual(self.parents(), expected)

    def test_a_new_parent_counts_at_once(self):
        below = self.yard.getLogger("a.b.c")
        self.assertEqual(below.getEffectiveLevel(), 30)
        self.yard.getLogger("a").setLevel(7)
        self.assertEqual(below.getEffectiveLevel(), 7)


class Children(WithYard):
    def test_get_child(self):
        one = self.yard.getLogger("a")
        child = one.getChild("b")
        self.assertEqual(child.name, "a.b")
        self.assertIs(child, self.yard.getLogger("a.b"))
        self.assertIs(one.getChild(suffix="b"), child)
        self.assertEqual(one.getChild("b.c.d").name, "a.b.c.d")
        self.assertEqual(child.getChild("root").name, "a.b.root")
        self.assertEqual(self.yard.loggers(), ["a", "a.b", "a.b.c.d", "a.b.root"])

    def test_get_child_of_the_root(self):
        self.assertIs(self.root.getChild("a.b"), self.yard.getLogger("a.b"))
        for suffix in ("", "root"):
            self.assertIs(self.root.getChild(suffix), self.root)
        self.assertEqual(self.root.getChild("root.a").name, "root.a")
        self.assertEqual(self.yard.loggers(), ["a.b", "root.a"])

    def test_wrong_suffixes(self):
        wrong = [thing for thing in objects() if not isinstance(thing, str)] + WRONG_PARTS
        for logger in (self.root, self.yard.getLogger("a")):
            for suffix in wrong + ([""] if logger.name == "a" else []):
                with self.assertRaises(BadName) as caught:
                    logger.getChild(suffix)
                self.assertIs(caught.exception.name, suffix)
        self.assertEqual(self.yard.loggers(), ["a"])

    def test_get_children(self):
        self.get("b", "a.c", "a.b", "a", "a.b.c", "a.d.e", "ab.c", "x.y", "root.a", "a.B", "roots", "c")
        for name, children in (
            ("a", ["a.B", "a.b", "a.c"]), ("a.b", ["a.b.c"]), ("a.b.c", []), ("b", []), ("", ["a", "b", "c", "roots"]), ("roots", []),
        ):
            told = self.yard.getLogger(name).getChildren()
            self.assertIs(type(told), list)
            self.assertEqual(told, self.get(*children))
        self.root.getChildren().clear()
        self.assertEqual(len(self.root.getChildren()), 4)

    def test_get_children_makes_none(self):
        self.get("a.b.c")
        self.assertEqual(self.root.getChildren(), [])
        self.assertEqual(self.yard.getLogger("a").getChildren(), [])
        self.assertEqual(self.yard.loggers(), ["a", "a.b.c"])

    def test_a_child_of_the_root_may_begin_with_the_word_root(self):
        self.get("root.a.b", "root.a")
        self.assertEqual(self.root.getChildren(), [])
        self.assertEqual(self.yard.getLogger("root.a").getChildren(), self.get("root.a.b"))


class Levels(WithYard):
    def test_the_effective_level_is_the_nearest_one_that_is_set(self):
        a, b, c = self.get("a", "a.b", "a.b.c")
        self.assertEqual(c.getEffectiveLevel(), 30)
        a.setLevel(5)
        self.assertEqual([logger.getEffectiveLevel() for logger in (self.root, a, b, c)], [30, 5, 5, 5])
        b.setLevel(-1)
        self.assertEqual([logger.getEffectiveLevel() for logger in (a, b, c)], [5, -1, -1])
        c.setLevel(40)
        self.assertEqual(c.getEffectiveLevel(), 40)
        b.setLevel(0)
        c.setLevel(0)
        self.assertEqual(c.getEffectiveLevel(), 5)

    def test_no_level_at_all(self):
        one = self.yard.getLogger("a")
        self.root.setLevel(0)
        self.assertEqual((one.getEffectiveLevel(), self.root.getEffectiveLevel()), (0, 0))
        self.assertEqual([one.isEnabledFor(level) for level in (-1, 0, 1)], [False, False, True])

    def test_propagate_and_disabled_do_not_matter_for_it(self):
        one, other = self.get("a", "a.b")
        one.setLevel(5)
        one.setDisabled(True)
        other.setPropagate(False)
        self.assertEqual(other.getEffectiveLevel(), 5)

    def test_enabled_at_and_beside_the_level(self):
        one = self.yard.getLogger("a")
        for level in (1, 5, 30, 31, 50, 1000):
            one.setLevel(level)
            told = [one.isEnabledFor(number) for number in (level - 1, level, level + 1)]
            self.assertEqual(told, [False, True, True])
        self.assertIs(one.isEnabledFor(level=1000), True)

    def test_the_bar(self):
        self.assertEqual(self.yard.bar(), 0)
        one = self.yard.getLogger("a")
        one.setLevel(5)
        for bar in (4, 5, 6, 30):
            self.assertIsNone(self.yard.disable(bar))
            self.assertEqual(self.yard.bar(), bar)
            for level in (3, 4, 5, 6, 7, 29, 30, 31):
                self.assertIs(one.isEnabledFor(level), level > bar and level >= 5)
        self.yard.disable()
        self.assertEqual(self.yard.bar(), 50)
        self.assertEqual([self.root.isEnabledFor(level) for level in (49, 50, 51)], [False, False, True])
        self.yard.disable(level="INFO")
        self.assertEqual(self.yard.bar(), 20)

    def test_a_bar_below_zero(self):
        one = self.yard.getLogger("a")
        one.setLevel(-10)
        self.assertEqual([one.isEnabledFor(level) for level in (-10, 0, 1)], [False, False, True])
        self.yard.disable(-5)
        self.assertEqual([one.isEnabledFor(level) for level in (-6, -5, -4, 0)], [False, False, True, True])

    def test_the_bar_refuses_what_is_no_level(self):
        self.yard.disable(7)
        for level in [thing for thing in objects() if type(thing) is not int] + ["low"]:
            with self.assertRaises(BadLevel) as caught:
                self.yard.disable(level)
            self.assertIs(caught.exception.level, level)
            self.assertEqual(self.yard.bar(), 7)

    def test_disabled(self):
        one, other = self.get("a", "a.b")
        one.setDisabled(True)
        self.assertIs(one.isEnabledFor(50), False)
        self.assertIs(other.isEnabledFor(50), True)
        one.setDisabled(False)
        self.assertIs(one.isEnabledFor(50), True)

    def test_as_things_stand_at_that_moment(self):
        one = self.yard.getLogger("a")
        told = [one.isEnabledFor(20)]
        self.root.setLevel(20)
        told.append(one.isEnabledFor(20))
        one.setLevel(21)
        told.append(one.isEnabledFor(20))
        one.setLevel(0)
        told.append(one.isEnabledFor(20))
        self.yard.disable(20)
        told.append(one.isEnabledFor(20))
        self.yard.disable(19)
        told.append(one.isEnabledFor(20))
        self.assertEqual(told, [False, True, False, True, False, True])


class Handlers(WithYard):
    def test_putting_and_taking(self):
        one, a, b, c = self.yard.getLogger("a"), keeper(self.yard), keeper(self.yard), keeper(self.yard)
        for handler in (a, b, a, c, b):
            self.assertIsNone(one.addHandler(handler))
        self.assertEqual(one.handlers, [a, b, c])
        self.assertIsNone(one.removeHandler(b))
        one.removeHandler(b)
        one.removeHandler(handler=keeper(self.yard))
        self.assertEqual(one.handlers, [a, c])
        one.addHandler(handler=b)
        self.assertEqual(one.handlers, [a, c, b])

    def test_has_handlers(self):
        a, b, c = self.get("a", "a.b", "a.b.c")
        one = keeper(self.yard, 10 ** 18)
        self.assertEqual([logger.hasHandlers() for logger in (self.root, a, b, c)], [False] * 4)
        for holder, expected in ((c, (0, 0, 0, 1)), (b, (0, 0, 1, 1)), (a, (0, 1, 1, 1)), (self.root, (1, 1, 1, 1))):
            holder.addHandler(one)
            told = [logger.hasHandlers() for logger in (self.root, a, b, c)]
            self.assertEqual(told, [bool(flag) for flag in expected])
            holder.removeHandler(one)
        a.addHandler(one)
        b.setPropagate(False)
        self.assertEqual([logger.hasHandlers() for logger in (self.root, a, b, c)], [False, True, False, False])
        c.addHandler(one)
        self.assertIs(c.hasHandlers(), True)

    def test_what_the_root_says_of_propagating_does_not_matter(self):
        self.root.addHandler(keeper(self.yard))
        self.root.setPropagate(False)
        self.assertIs(self.yard.getLogger("a").hasHandlers(), True)
        self.assertIs(self.root.hasHandlers(), True)


class Reaching(WithYard):
    def setUp(self):
        WithYard.setUp(self)
        self.kept = []
        self.loggers = self.get("", "a", "a.b", "a.b.c")
        for logger, word in zip(self.loggers, "ravc"):
            for number in "12":
                logger.addHandler(keeper(self.yard, 0, self.kept, word + number))

    def reached(self, name, level=50):
        del self.kept[:]
        self.yard.getLogger(name).log(level, "m")
        return " ".join(self.kept)

    def test_all_up_to_the_root_in_their_order(self):
        self.assertEqual(self.reached("a.b.c"), "c1 c2 v1 v2 a1 a2 r1 r2")
        self.assertEqual(self.reached("a"), "a1 a2 r1 r2")
        self.assertEqual(self.reached(""), "r1 r2")
        self.assertEqual(self.reached("x.y"), "r1 r2")
        self.assertEqual(self.reached("a.x.y"), "a1 a2 r1 r2")

    def test_up_to_the_first_that_does_not_propagate(self):
        self.loggers[2].setPropagate(False)
        self.assertEqual(self.reached("a.b.c"), "c1 c2 v1 v2")
        self.assertEqual(self.reached("a.b"), "v1 v2")
        self.assertEqual(self.reached("a"), "a1 a2 r1 r2")
        self.loggers[3].setPropagate(False)
        self.assertEqual(self.reached("a.b.c"), "c1 c2")
        self.loggers[3].setPropagate(True)
        self.loggers[2].setPropagate(True)
        self.loggers[0].setPropagate(False)
        self.assertEqual(self.reached("a.b.c"), "c1 c2 v1 v2 a1 a2 r1 r2")

    def test_levels_filters_and_disabled_of_those_above_do_not_matter(self):
        for logger in self.loggers[:3]:
            logger.setLevel(100)
            logger.setDisabled(True)
            logger.addFilter(Filter("none"))
            logger.addFilter(lambda record: False)
        self.loggers[3].setLevel(1)
        self.assertEqual(self.reached("a.b.c", 1), "c1 c2 v1 v2 a1 a2 r1 r2")

    def test_levels_of_handlers(self):
        self.loggers[3].handlers[1].setLevel(20)
        self.loggers[1].handlers[0].setLevel(21)
        self.loggers[0].handlers[0].setLevel(19)
        self.loggers[0].setLevel(1)
        self.assertEqual(self.reached("a.b.c", 20), "c1 c2 v1 v2 a2 r1 r2")
        self.assertEqual(self.reached("a.b.c", 19), "c1 v1 v2 a2 r1 r2")
        self.assertEqual(self.reached("a.b.c", 21), "c1 c2 v1 v2 a1 a2 r1 r2")

    def test_a_handler_of_several_loggers_handles_once_for_each(self):
        both = self.loggers[0].handlers[1]
        self.loggers[3].addHandler(both)
        self.loggers[2].addHandler(both)
        self.assertEqual(self.reached("a.b.c"), "c1 c2 r2 v1 v2 r2 a1 a2 r1 r2")

    def test_each_handles_the_same_record(self):
        self.yard.getLogger("a.b.c").error("m")
        records = [handler.records for logger in self.loggers for handler in logger.handlers]
        self.assertEqual([len(few) for few in records], [1] * 8)
        self.assertEqual(len(set(id(few[0]) for few in records)), 1)


class Logging(WithYard):
    def setUp(self):
        WithYard.setUp(self)
        self.logger = self.yard.getLogger("a.b")
        self.keeper = keeper(self.yard, -10 ** 18)
        self.logger.addHandler(self.keeper)

    def last(self):
        return self.keeper.records[-1]

    def test_the_record_that_is_made(self):
        self.yard.advance(777)
        self.assertIsNone(self.logger.log(30, "{}-{}", (1, [2]), {"k": {"in": 1}}))
        one = self.last()
        told = (one.name, one.levelno, one.levelname, one.msg, one.given, one.created, one.extra, one.message())
        self.assertEqual(told, ("a.b", 30, "WARNING", "{}-{}", (1, [2]), 777, {"k": {"in": 1}}, "1-[2]"))

    def test_of_the_root(self):
        self.root.addHandler(self.keeper)
        self.root.error("m")
        self.assertEqual(self.last().name, "root")

    def test_parameters_go_by_keyword(self):
        self.logger.log(extra={"k": 1}, args=[5], msg="{}", level=60)
        one = self.last()
        self.assertEqual((one.levelno, one.levelname, one.message(), one.extra), (60, "Level 60", "5", {"k": 1}))
        for word, level in FIVE:
            self.root.setLevel(1)
            getattr(self.logger, word)(extra={"k": word}, args=[level], msg="{}!")
            one = self.last()
            self.assertEqual((one.levelno, one.message(), one.extra), (level, str(level) + "!", {"k": word}))

    def test_the_five_methods(self):
        self.root.setLevel(1)
        for word, level in FIVE:
            self.assertIsNone(getattr(self.logger, word)("m"))
            one = self.last()
            self.assertEqual((one.levelno, one.levelname, one.msg, one.given, one.extra), (level, word.upper(), "m", (), {}))
            getattr(self.logger, word)("{}", (1,), {"k": 2})
            one = self.last()
            self.assertEqual((one.levelno, one.message(), one.extra), (level, "1", {"k": 2}))
        self.assertEqual(len(self.keeper.records), 10)

    def test_the_five_methods_below_the_level(self):
        for number, (word, level) in enumerate(FIVE):
            self.logger.setLevel(level + 1)
            for other, _ in FIVE[:number + 1]:
                getattr(self.logger, other)("m")
            self.assertEqual(self.keeper.records, [])

    def test_at_and_beside_the_level(self):
        self.logger.setLevel(17)
        for level in (16, 17, 18, -5, 0):
            self.logger.log(level, "m")
        self.assertEqual([record.levelno for record in self.keeper.records], [17, 18])

    def test_levels_that_are_no_integers(self):
        for enabled in (True, False):
            self.logger.setDisabled(not enabled)
            for level in [thing for thing in objects() if type(thing) is not int] + ["INFO", "ERROR", "50"]:
                with self.assertRaises(BadLevel) as caught:
                    self.logger.log(level, "m", (), {"name": 1})
                self.assertIs(caught.exception.level, level)
        self.assertEqual(self.keeper.records, [])

    def test_bad_extra_only_where_a_record_is_made(self):
        self.logger.setLevel(20)
        self.logger.log(19, "m", (), {"name": 1})
        with self.assertRaises(BadExtra) as caught:
            self.logger.log(20, "m", (), {"name": 1, "msg": 2, "k": 3})
        self.assertEqual(caught.exception.name, "msg")
        self.logger.debug("m", (), {"name": 1})
        with self.assertRaises(BadExtra):
            self.logger.info("m", (), {"args": 1})
        self.logger.addFilter(lambda record: False)
        with self.assertRaises(BadExtra):
            self.logger.info("m", (), {"args": 1})
        self.logger.setDisabled(True)
        self.logger.info("m", (), {"args": 1})
        self.assertEqual(self.keeper.records, [])

    def test_messages_are_not_made_on_the_way(self):
        silent = self.yard.getLogger("c")
        seen = []
        silent.addFilter(lambda record: seen.append(record))
        silent.error("{", (1,))
        with self.assertRaises(BadMessage):
            seen[0].message()

    def test_later_changes_change_nothing(self):
        args, extra = [[1]], {"k": [2]}
        self.logger.error("{}", args, extra)
        args[0].append(9)
        extra["k"].append(9)
        self.assertEqual((self.last().message(), self.last().extra), ("[1]", {"k": [2]}))

    def test_the_bar_and_disabled_hold_back(self):
        self.yard.disable(40)
        self.logger.error("m")
        self.logger.setDisabled(True)
        self.logger.critical("m")
        self.assertEqual(self.keeper.records, [])
        self.logger.setDisabled(False)
        self.logger.critical("m")
        self.assertEqual(len(self.keeper.records), 1)


class Handling(WithYard):
    def setUp(self):
        WithYard.setUp(self)
        self.logger = self.yard.getLogger("a")
        self.keeper = keeper(self.yard)
        self.logger.addHandler(self.keeper)
        self.record = self.yard.make_record("x.y", 5, "m")

    def test_levels_and_the_bar_are_not_looked_at(self):
        self.logger.setLevel(40)
        self.yard.disable(50)
        self.assertIsNone(self.logger.handle(record=self.record))
        self.assertEqual(self.keeper.records, [self.record])

    def test_a_disabled_logger_does_nothing(self):
        asked = []
        self.logger.addFilter(lambda record: asked.append(record))
        self.logger.setDisabled(True)
        self.logger.handle(self.record)
        self.assertEqual((self.keeper.records, asked), ([], []))

    def test_filters_hold_back(self):
        self.logger.addFilter(Filter("x"))
        self.logger.handle(self.record)
        self.logger.handle(self.yard.make_record("a", 50, "m"))
        self.assertEqual(self.keeper.records, [self.record])

    def test_filters_may_put_another_record_in_the_place(self):
        other = self.yard.make_record("z", 7, "other")
        self.keeper.setLevel(7)
        self.logger.addFilter(lambda record: other)
        self.logger.handle(self.record)
        self.assertEqual(self.keeper.records, [other])
        self.keeper.setLevel(8)
        self.logger.handle(self.yard.make_record("a", 50, "m"))
        self.assertEqual(self.keeper.records, [other])


class LastResort(WithYard):
    def told(self):
        return self.yard.text("stderr")

    def test_from_thirty_on_where_no_handler_is_reached(self):
        self.root.setLevel(1)
        for level in (1, 29, 30, 31, 50):
            self.yard.getLogger("a").log(level, "m{}", (level,))
        self.assertEqual(self.told(), "m30\nm31\nm50\n")
        self.assertEqual((self.yard.streams(), self.yard.files(), self.yard.getHandlerNames()), (["stderr"], {}, []))

    def test_by_handle_too(self):
        for level in (29, 30):
            self.root.handle(self.yard.make_record("x", level, str(level)))
        self.assertEqual(self.told(), "30\n")

    def test_a_message_that_cannot_be_made_is_a_failure(self):
        self.yard.getLogger("a.b").error("{", (1,))
        self.assertEqual((self.told(), self.yard.failures()), ("", [("a.b", "message")]))

    def test_a_handler_whose_level_is_too_high_is_one_all_the_same(self):
        self.root.addHandler(keeper(self.yard, 100))
        self.yard.getLogger("a").error("m")
        self.assertEqual(self.told(), "")

    def test_a_handler_whose_filters_hold_back_is_one_all_the_same(self):
        self.root.addHandler(keeper(self.yard))
        self.root.handlers[0].addFilter(Filter("b"))
        self.yard.getLogger("a").error("m")
        self.assertEqual(self.told(), "")

    def test_handlers_behind_one_that_does_not_propagate_do_not_count(self):
        self.root.addHandler(keeper(self.yard))
        one = self.yard.getLogger("a")
        one.setPropagate(False)
        one.error("m")
        self.assertEqual((self.told(), self.root.handlers[0].records), ("m\n", []))
        one.setPropagate(True)
        one.error("n")
        self.assertEqual((self.told(), len(self.root.handlers[0].records)), ("m\n", 1))

    def test_handlers_of_others_do_not_count(self):
        self.yard.getLogger("a.b").addHandler(keeper(self.yard))
        self.yard.getLogger("b").addHandler(keeper(self.yard))
        self.yard.getLogger("a").error("m")
        self.assertEqual(self.told(), "m\n")

    def test_not_for_what_is_held_back(self):
        one = self.yard.getLogger("a")
        one.addFilter(Filter("b"))
        one.error("m")
        self.yard.disable(40)
        self.root.error("m")
        other = self.yard.getLogger("c")
        other.setDisabled(True)
        other.critical("m")
        other.handle(self.yard.make_record("x", 50, "m"))
        self.assertEqual(self.told(), "")

    def test_the_level_is_that_of_the_record_that_took_the_place(self):
        low, high = self.yard.make_record("x", 29, "low"), self.yard.make_record("x", 30, "high")
        one, other = self.get("a", "b")
        one.addFilter(lambda record: low)
        one.critical("m")
        other.addFilter(lambda record: high)
        other.handle(low)
        self.assertEqual(self.told(), "high\n")

    def test_it_outlasts_a_shutdown(self):
        self.root.error("m")
        self.yard.shutdown()
        self.root.error("n")
        self.assertEqual(self.told(), "m\nn\n")

    def test_it_is_the_yards_own(self):
        other = Yard()
        self.root.error("m")
        self.assertEqual(other.text("stderr"), "")
