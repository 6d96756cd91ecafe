"""[32], [33]: what settings do with a yard when they are laid over it."""

import copy
import unittest

from recordyard.errors import BadSettings
from recordyard.files import FileHandler
from recordyard.filters import Filter
from recordyard.formatters import Formatter
from recordyard.handlers import NullHandler, StreamHandler
from recordyard.memory import MemoryHandler
from recordyard.queues import Queue, QueueHandler, QueueListener
from recordyard.rotating import RotatingFileHandler
from recordyard.settings import configure
from recordyard.timed import TimedRotatingFileHandler
from recordyard.yards import Yard
from tests.helpers import all_loggers, standing


class Laid(unittest.TestCase):
    def setUp(self):
        self.yard = Yard(5000)

    def lay(self, **parts):
        settings = {"version": 1} | parts
        kept = copy.deepcopy(settings)
        self.assertIsNone(configure(self.yard, settings))
        self.assertEqual(settings, kept)

    def handler(self, name):
        return self.yard.getHandlerByName(name)

    def told(self, *names):
        return [(one.level, one.propagate, one.disabled, one.handlers, one.filters) for one in map(self.yard.getLogger, names)]


class Incremental(Laid):
    def lay(self, **parts):
        super().lay(incremental=True, **parts)

    def test_levels_of_handlers(self):
        handlers = [StreamHandler(self.yard), NullHandler(self.yard), FileHandler(self.yard, "log")]
        for number, handler in enumerate(handlers):
            handler.setName(f"h{number}")
            handler.setLevel(30)
        self.yard.add_level_name(7, "own")
        self.lay(handlers={"h0": {"level": 0}, "h1": {"level": "own"}, "h2": {}})
        self.assertEqual([handler.level for handler in handlers], [0, 7, 30])
        self.lay(handlers={"h2": {"level": -4}})
        self.assertEqual([handler.level for handler in handlers], [0, 7, -4])

    def test_a_name_leads_to_the_handler_that_was_given_it_last(self):
        first, second = StreamHandler(self.yard), StreamHandler(self.yard)
        first.setName("x")
        second.setName("x")
        self.lay(handlers={"x": {"level": 5}})
        self.assertEqual((first.level, second.level), (0, 5))

    def test_loggers(self):
        one = self.yard.getLogger("a")
        one.setLevel(10)
        one.setPropagate(False)
        self.lay(loggers={"a": {"level": "ERROR"}, "b": {"propagate": False}, "c.d": {}})
        self.assertEqual(self.yard.loggers(), ["a", "b", "c.d"])
        self.assertEqual(self.told("a", "b", "c.d"), [(40, False, False, [], []), (0, False, False, [], []), (0, True, False, [], [])])
        self.lay(loggers={"a": {"propagate": True, "level": 0}})
        self.assertEqual(self.told("a"), [(0, True, False, [], [])])
        self.assertEqual(self.yard.root.level, 30)

    def test_the_root_by_all_its_names(self):
        self.lay(loggers={"": {"level": 5, "propagate": False}})
        self.assertEqual((self.yard.root.level, self.yard.root.propagate), (5, True))
        self.lay(loggers={"root": {"level": "INFO", "propagate": False}})
        self.assertEqual((self.yard.root.level, self.yard.root.propagate), (20, True))
        self.lay(root={"level": 0, "propagate": False})
        self.assertEqual((self.yard.root.level, self.yard.root.propagate), (0, True))
        # The last one of them wins.
        self.lay(loggers={"root": {"level": 2}, "": {"level": 1}})
        self.assertEqual(self.yard.root.level, 2)
        self.lay(loggers={"root": {"level": 2}, "": {"level": 1}}, root={"level": 3})
        self.assertEqual(self.yard.root.level, 3)
        self.lay(loggers={"root": {"level": 2}, "": {"level": 1}}, root={})
        self.assertEqual((self.yard.root.level, self.yard.loggers()), (2, []))

    def test_nothing_else_happens(self):
        handler, other, one = StreamHandler(self.yard, "out"), StreamHandler(self.yard), Filter("a")
        handler.setName("h")
        logger = self.yard.getLogger("a")
        for thing in (logger, self.yard.root, handler):
            thing.addFilter(one)
        for thing in (logger, self.yard.root):
            thing.addHandler(handler)
        logger.setDisabled(True)
        self.yard.getLogger("a.b").setDisabled(True)
        before = standing(self.yard)
        self.lay(
            disable_existing_loggers=True, formatters={"f": {}}, filters={"u": {}}, root={"handlers": [], "filters": ["u"]},
            handlers={"h": {"class": "null", "stream": 5, "filters": [], "terminator": "x"}},
            loggers={"a": {"handlers": [], "filters": ["u"]}, "root": {"handlers": []}},
        )
        self.assertEqual(standing(self.yard), before)
        self.assertEqual((self.yard.getHandlerNames(), other.name), (["h"], None))

    def test_refused_ones_change_nothing(self):
        handler = StreamHandler(self.yard)
        handler.setName("h")
        before = standing(self.yard)
        for parts, path in (
            ({"handlers": {"h": {"level": 5}, "i": {}}}, ("handlers", "i")),
            ({"handlers": {"h": {"level": 5}}, "loggers": {"b": {"level": 5}, "c": {"level": "x"}}}, ("loggers", "c", "level")),
            ({"handlers": {"h": {"level": 5}}, "loggers": {"b": {}}, "root": {"level": None}}, ("root", "level")),
        ):
            with self.assertRaises(BadSettings) as caught:
                configure(self.yard, {"version": 1, "incremental": True} | parts)
            self.assertEqual((caught.exception.path, standing(self.yard)), (path, before))


class Handlers(Laid):
    def test_each_class_with_the_defaults(self):
        self.lay(handlers={
            "s": {"class": "stream"}, "n": {"class": "null"}, "f": {"class": "file", "filename": "f"}, "r": {"class": "rotating", "filename": "r"},
            "t": {"class": "timed", "filename": "t"}, "m": {"class": "memory", "capacity": 2}, "q": {"class": "queue"},
        })
        kinds = {"s": StreamHandler, "n": NullHandler, "f": FileHandler, "r": RotatingFileHandler, "t": TimedRotatingFileHandler,
                 "m": MemoryHandler, "q": QueueHandler}
        self.assertEqual(self.yard.getHandlerNames(), sorted(kinds))
        for name, kind in kinds.items():
            handler = self.handler(name)
            self.assertIs(type(handler), kind)
            told = (handler.yard, handler.level, handler.formatter, handler.filters, handler.name, handler.terminator)
            self.assertEqual(told, (self.yard, 0, None, [], name, "\n"))
        self.assertEqual((self.handler("s").stream, self.yard.files()), ("stderr", {"f": "", "r": "", "t": ""}))
        self.assertEqual([self.handler(name).filename for name in "frt"], ["f", "r", "t"])
        self.assertEqual(self.handler("t").rolloverAt, 3605)
        self.check_memory()
        queue, listener = self.handler("q").queue, self.handler("q").listener
        self.assertIs(type(queue), Queue)
        self.assertIs(type(listener), QueueListener)
        self.handler("q").handle(self.record("m"))
        self.assertEqual((len(queue), listener.run(), len(queue)), (1, 1, 0))

    def record(self, message, level=20):
        return self.yard.make_record("a", level, message)

    def check_memory(self):
        memory = self.handler("m")
        self.assertEqual([memory.shouldFlush(self.record("m", level)) for level in (39, 40)], [False, True])
        memory.handle(self.record("m"))
        memory.flush()
        self.assertEqual(len(memory.buffer()), 1)
        self.assertIs(memory.shouldFlush(self.record("m")), False)
        memory.handle(self.record("m"))
        self.assertIs(memory.shouldFlush(self.record("m")), True)

    def test_keys_of_all_classes(self):
        self.yard.add_level_name(7, "own")
        for word, more in (
            ("stream", {}), ("null", {}), ("file", {"filename": "f"}), ("rotating", {"filename": "f"}), ("timed", {"filename": "f"}),
            ("memory", {"capacity": 2}), ("queue", {}),
        ):
            self.lay(
                formatters={"f": {"format": "{name}"}}, filters={"u": {"name": "a"}, "v": {}},
                handlers={"h": {"class": word, "level": "own", "formatter": "f", "filters": ("v", "u", "v"), "terminator": "!"} | more},
            )
            handler = self.handler("h")
            self.assertEqual((handler.level, handler.terminator, handler.formatter.fields()), (7, "!", ("name",)))
            self.assertEqual([one.name for one in handler.filters], ["", "a"])

    def test_streams(self):
        self.lay(handlers={"h": {"class": "stream", "stream": "out"}, "i": {"class": "stream", "stream": ""}}, root={"handlers": ["h", "i"]})
        self.yard.root.error("m")
        self.assertEqual((self.handler("i").stream, self.yard.text("out"), self.yard.text("")), ("", "m\n", "m\n"))

    def test_files(self):
        for name in ("w", "a", "late"):
            self.yard.put_file(name, "old ")
        self.lay(handlers={
            "w": {"class": "file", "filename": "w", "mode": "w"}, "a": {"class": "file", "filename": "a", "mode": "a"},
            "late": {"class": "file", "filename": "late", "mode": "w", "delay": True}, "none": {"class": "file", "filename": "none", "delay": True},
            "new": {"class": "file", "filename": "new", "delay": False},
        }, root={"handlers": ["w", "a", "late"]})
        self.assertEqual(self.yard.files(), {"a": "old ", "late": "old ", "new": "", "w": ""})
        self.yard.root.error("m")
        self.assertEqual(self.yard.files(), {"a": "old m\n", "late": "m\n", "new": "", "w": "m\n"})

    def test_rotating_files(self):
        self.yard.put_file("w", "old")
        self.lay(handlers={
            "w": {"class": "rotating", "filename": "w", "mode": "w"}, "late": {"class": "rotating", "filename": "late", "delay": True},
            "r": {"class": "rotating", "filename": "r", "mode": "w", "maxBytes": 6, "backupCount": 2},
        }, root={"handlers": ["r"]})
        self.assertEqual(self.yard.files(), {"r": "", "w": ""})
        for message in ("one", "two", "three", "four"):
            self.yard.root.error(message)
        self.assertEqual(self.yard.files(), {"r": "four\n", "r.1": "three\n", "r.2": "two\n", "w": ""})

    def test_timed_files(self):
        self.lay(handlers={
            "t": {"class": "timed", "filename": "t", "when": "s", "interval": 10, "backupCount": 1},
            "late": {"class": "timed", "filename": "late", "when": "MIDNIGHT", "delay": True},
        }, root={"handlers": ["t"]})
        self.assertEqual((self.handler("t").rolloverAt, self.handler("late").rolloverAt, self.yard.files()), (15, 86400, {"t": ""}))
        for message in ("one", "two", "three"):
            self.yard.root.error(message)
            self.yard.advance(10000)
        self.assertEqual(self.yard.files(), {"t": "three\n", "t.1970-01-01_00-00-15": "two\n"})

    def test_memories(self):
        self.lay(handlers={
            "m": {"class": "memory", "capacity": 2, "flushLevel": 50, "target": "s"}, "s": {"class": "stream", "stream": "out"},
            "k": {"class": "memory", "capacity": 9, "flushOnClose": False, "target": "s"},
        }, root={"handlers": ["m", "k"]})
        self.yard.root.warning("one")
        self.assertEqual(self.yard.text("out"), "")
        self.yard.root.warning("two")
        self.assertEqual(self.yard.text("out"), "one\ntwo\n")
        self.yard.root.critical("three")
        self.assertEqual(self.yard.text("out"), "one\ntwo\nthree\none\ntwo\nthree\n")
        self.yard.root.warning("four")
        self.yard.shutdown()
        self.assertEqual(self.yard.text("out").count("four"), 1)

    def test_queues(self):
        self.lay(handlers={
            "q": {"class": "queue", "handlers": ["b", "a", "b"], "respect_handler_level": True}, "p": {"class": "queue", "handlers": ["b", "a"]},
            "a": {"class": "stream", "stream": "out", "level": 40, "terminator": "a "}, "b": {"class": "stream", "stream": "out", "terminator": "b "},
        }, root={"handlers": ["q", "p"]})
        self.assertNotEqual(self.handler("q").queue, self.handler("p").queue)
        self.yard.root.error("e")
        self.yard.root.warning("w")
        self.assertEqual(self.handler("q").listener.run(), 2)
        self.assertEqual(self.yard.text("out"), "eb ea wb ")
        self.assertEqual(self.handler("p").listener.run(many=1), 1)
        self.assertEqual(self.yard.text("out"), "eb ea wb eb ea ")
        # Without respect_handler_level the level of a does not matter.
        self.assertEqual(self.handler("p").listener.run(), 1)
        self.assertEqual(self.yard.text("out"), "eb ea wb eb ea wb wa ")

    def test_formatters_and_filters_of_an_id_are_the_same(self):
        self.lay(
            formatters={"f": {"format": "$name", "style": "$"}, "g": {"format": "plain", "validate": False}, "d": {"format": "{x}", "defaults": {"x": 5}}, "": {}},
            filters={"u": {"name": "a.b"}, "": {}},
            handlers={
                "h": {"class": "stream", "formatter": "f", "filters": ["u"]}, "i": {"class": "null", "formatter": "f", "filters": ["", "u"]},
                "j": {"class": "null", "formatter": "g"}, "k": {"class": "null", "formatter": "d"}, "l": {"class": "null", "formatter": ""},
            },
            loggers={"a": {"filters": ["u"]}},
        )
        names = "hijkl"
        formatters = [self.handler(name).formatter for name in names]
        self.assertEqual(formatters[0], formatters[1])
        self.assertEqual([one.formatted(self.record("m")) for one in formatters], ["a", "a", "plain", "5", "m"])
        self.assertEqual(self.handler("h").filters, self.yard.getLogger("a").filters)
        self.assertEqual(self.handler("i").filters[1:], self.handler("h").filters)
        self.assertEqual([(type(one), one.name) for one in self.handler("i").filters], [(Filter, ""), (Filter, "a.b")])

    def test_an_empty_id_is_no_name(self):
        self.lay(handlers={"": {"class": "stream", "stream": "out"}, "m": {"class": "memory", "capacity": 0, "target": ""}}, root={"handlers": ["", "m"]})
        self.assertEqual((self.yard.getHandlerNames(), self.yard.root.handlers[0].name), (["m"], None))
        self.yard.root.error("m")
        self.assertEqual(self.yard.text("out"), "m\nm\n")

    def rounds(self, handlers):
        """The ids of memories and queues in the order in which they were made, as shutdown tells it."""
        for row in handlers.values():
            row.setdefault("class", "memory")
            if row["class"] == "memory":
                row["capacity"] = 99
        self.lay(handlers=handlers)
        closed = []
        for name in self.yard.getHandlerNames():
            # What is kept comes to the terminal handler when the memory is closed.
            sink = NullHandler(self.yard)
            sink.addFilter(lambda record: closed.append(record.name))
            handler = self.handler(name)
            if isinstance(handler, MemoryHandler):
                handler.setTarget(sink)
                handler.handle(self.yard.make_record(name, 20, "m"))
        self.yard.shutdown()
        return closed[::-1]

    def test_the_order_in_which_they_are_made(self):
        self.assertEqual(self.rounds({"c": {}, "a": {}, "b": {}}), ["a", "b", "c"])
        self.assertEqual(self.rounds({"a": {"target": "b"}, "b": {}}), ["b", "a"])
        self.assertEqual(self.rounds({"a": {}, "b": {"target": "a"}}), ["a", "b"])
        # The first round makes d and then e, which waits for d alone; the second one a and then b.
        rows = {"a": {"target": "d"}, "b": {"target": "a"}, "c": {"target": "z"}, "d": {}, "e": {"target": "d"}, "z": {"target": "a"}}
        self.assertEqual(self.rounds(rows), ["d", "e", "a", "b", "z", "c"])
        rows = {"a": {"target": "q"}, "b": {}, "q": {"class": "queue", "handlers": ["b", "y"]}, "x": {}, "y": {}}
        self.assertEqual(self.rounds(rows), ["b", "x", "y", "a"])

    def test_what_was_passed_has_no_effect_later(self):
        defaults = {"x": [1]}
        listening, filters, row = ["h"], ["u"], {"class": "stream", "stream": "out", "formatter": "f", "filters": []}
        settings = {
            "version": 1, "formatters": {"f": {"format": "{x}", "defaults": defaults}}, "filters": {"u": {"name": "a"}},
            "handlers": {"h": row, "q": {"class": "queue", "handlers": listening}}, "root": {"handlers": ["h", "q"], "filters": filters},
        }
        configure(self.yard, settings)
        defaults["x"].append(2)
        listening.append("none")
        filters.clear()
        row["stream"] = "else"
        settings["root"]["handlers"].clear()
        self.yard.root.handle(self.record("m"))
        self.assertEqual(self.handler("q").listener.run(), 1)
        self.assertEqual((self.yard.text("out"), len(self.yard.root.filters), len(self.yard.root.handlers)), ("[1]\n[1]\n", 1, 2))


class Earlier(Laid):
    def test_names_lead_nowhere_and_handlers_are_closed(self):
        stay, both, loose = FileHandler(self.yard, "stay", "w"), FileHandler(self.yard, "both", "w"), FileHandler(self.yard, "loose", "w")
        for handler, name in ((stay, "stay"), (both, "both"), (loose, "loose")):
            handler.setName(name)
        self.yard.root.addHandler(stay)
        self.lay(handlers={"both": {"class": "null"}})
        self.assertEqual(self.yard.getHandlerNames(), ["both"])
        self.assertNotEqual(self.handler("both"), both)
        self.assertEqual([handler.name for handler in (stay, both, loose)], ["stay", "both", "loose"])
        for handler in (stay, both, loose):
            handler.handle(self.yard.make_record("a", 20, "m"))
        # They do not emit any more, as those of the mode w that were closed.
        self.assertEqual((self.yard.files(), self.yard.root.handlers), ({"both": "", "loose": "", "stay": ""}, [stay]))

    def test_they_are_closed_the_one_made_last_first_and_ahead_of_what_is_made(self):
        self.yard.put_file("log", "")
        kept = StreamHandler(self.yard, "out")
        for name in ("one", "two"):
            memory = MemoryHandler(self.yard, 9, 99, FileHandler(self.yard, "log"))
            memory.handle(self.yard.make_record("a", 20, name))
        self.lay(handlers={"w": {"class": "file", "filename": "log", "mode": "w", "delay": True}})
        self.assertEqual(self.yard.files(), {"log": "two\none\n"})
        self.lay(handlers={"w": {"class": "file", "filename": "log", "mode": "w"}})
        self.assertEqual((self.yard.files(), kept.closed), ({"log": ""}, True))

    def test_those_closed_before_are_not_closed_again(self):
        closed = MemoryHandler(self.yard, 9, 99)
        closed.close()
        closed.setTarget(StreamHandler(self.yard, "out"))
        closed.handle(self.yard.make_record("a", 20, "m"))
        self.lay()
        self.assertEqual((len(closed.buffer()), self.yard.text("out")), (1, ""))

    def test_names_that_were_given_behind_closing(self):
        closed = StreamHandler(self.yard)
        closed.close()
        closed.setName("x")
        self.lay()
        self.assertEqual((self.yard.getHandlerNames(), closed.name), ([], "x"))

    def test_failures_streams_and_names_of_levels_stay(self):
        self.yard.root.addHandler(StreamHandler(self.yard, "out"))
        self.yard.root.error("{}", (1, 2))
        self.yard.root.error("m")
        self.yard.add_level_name(7, "own")
        self.yard.disable(5)
        self.lay()
        told = (self.yard.failures(), self.yard.text("out"), self.yard.level_name(7), self.yard.bar(), self.yard.now())
        self.assertEqual(told, ([("root", "message")], "m\n", "own", 5, 5000))


class Loggers(Laid):
    def setUp(self):
        super().setUp()
        self.old, self.one = StreamHandler(self.yard, "old"), Filter("b")
        for name in ("", "a", "a.b", "a.b.c", "ab", "b", "root.x"):
            logger = self.yard.getLogger(name)
            logger.setLevel(10)
            logger.setPropagate(False)
            logger.setDisabled(True)
            logger.addHandler(self.old)
            logger.addFilter(self.one)

    def test_named_ones_with_everything(self):
        self.lay(filters={"u": {}, "v": {}}, handlers={"h": {"class": "null"}, "i": {"class": "null"}}, loggers={
            "a": {"level": 0, "propagate": True, "filters": ("v", "u", "v"), "handlers": ["i", "h", "i"]}, "new": {"handlers": ("h",), "level": "INFO"},
        })
        h, i = self.handler("h"), self.handler("i")
        one, new = self.yard.getLogger("a"), self.yard.getLogger("new")
        self.assertEqual((one.level, one.propagate, one.disabled, one.handlers), (0, True, False, [i, h]))
        self.assertEqual((one.filters[0], len(one.filters)), (self.one, 3))
        self.assertEqual((new.level, new.propagate, new.disabled, new.handlers, new.filters, new.parent), (20, True, False, [h], [], self.yard.root))

    def test_named_ones_without_anything(self):
        self.lay(loggers={"a": {}, "x.y": {}})
        self.assertEqual(self.told("a", "x.y"), [(10, False, False, [], [self.one]), (0, True, False, [], [])])

    def test_those_below_named_ones(self):
        for flag in (True, False):
            self.setUp()
            self.yard.getLogger("a.b.c").setDisabled(False)
            self.lay(disable_existing_loggers=flag, loggers={"a": {"level": 5}})
            self.assertEqual(self.told("a.b", "a.b.c"), [(0, True, True, [], [self.one]), (0, True, False, [], [self.one])])
            # Names that just begin alike are not below.
            self.assertEqual(self.told("ab", "root.x"), [(10, False, flag, [self.old], [self.one])] * 2)

    def test_one_that_is_named_and_below_another_one(self):
        self.lay(loggers={"a": {}, "a.b": {"level": 3}, "a.n": {}})
        self.assertEqual(self.told("a.b", "a.b.c"), [(3, False, False, [], [self.one]), (0, True, True, [], [self.one])])

    def test_a_new_one_ahead_of_old_ones(self):
        self.yard.getLogger("p.q").setLevel(5)
        self.lay(loggers={"p": {}})
        self.assertEqual((self.told("p.q"), self.yard.getLogger("p.q").parent), ([(0, True, False, [], [])], self.yard.getLogger("p")))

    def test_all_others(self):
        for parts, flag in (({}, True), ({"disable_existing_loggers": True}, True), ({"disable_existing_loggers": False}, False)):
            for before in (True, False):
                self.setUp()
                self.yard.getLogger("b").setDisabled(before)
                self.lay(loggers={"a": {}, "n": {}}, **parts)
                self.assertEqual(self.told("b", "ab"), [(10, False, flag, [self.old], [self.one])] * 2)
                self.assertIs(self.yard.getLogger("n").disabled, False)

    def test_the_root_is_none_of_the_others(self):
        self.lay()
        self.assertEqual(self.told("", "b"), [(10, False, True, [self.old], [self.one]), (10, False, True, [self.old], [self.one])])
        # Nor are others below it, by none of its names.
        self.lay(loggers={"": {}, "root": {}}, disable_existing_loggers=False)
        self.assertEqual(self.told("b", "root.x"), [(10, False, False, [self.old], [self.one])] * 2)

    def test_closed_handlers_stay_on_others(self):
        self.lay(loggers={"a": {}}, disable_existing_loggers=False)
        self.yard.getLogger("b").handle(self.yard.make_record("b", 20, "m"))
        self.assertEqual(self.yard.text("old"), "m\n")

    def test_the_root_by_the_key_root(self):
        self.lay(filters={"u": {}}, handlers={"h": {"class": "null"}}, root={"level": 0, "handlers": ["h"], "filters": ["u"]})
        root = self.yard.root
        self.assertEqual((root.level, root.propagate, root.disabled, root.handlers), (0, False, True, [self.handler("h")]))
        self.assertEqual((root.filters[0], len(root.filters)), (self.one, 2))
        self.lay(root={})
        self.assertEqual((root.level, root.handlers, len(root.filters), root.disabled), (0, [], 2, True))

    def test_the_root_among_the_loggers(self):
        for name in ("", "root"):
            self.setUp()
            self.lay(handlers={"h": {"class": "null"}}, loggers={name: {"level": 5, "handlers": ["h"]}})
            self.assertEqual(self.told(""), [(5, False, True, [self.handler("h")], [self.one])])
            self.assertNotIn("root", self.yard.loggers())

    def test_the_root_by_several_names(self):
        rows = {"": {"level": 1, "handlers": ["h"], "filters": ["u"]}, "root": {"handlers": ["i"], "filters": ["v", "u"]}}
        settings = {"filters": {"u": {}, "v": {}, "w": {}}, "handlers": {key: {"class": "null"} for key in "hij"}, "loggers": rows}
        self.lay(**settings)
        self.assertEqual((self.yard.root.level, self.yard.root.handlers, len(self.yard.root.filters)), (1, [self.handler("i")], 3))
        self.lay(root={"level": 9, "filters": ["w"]}, **settings)
        self.assertEqual((self.yard.root.level, self.yard.root.handlers, len(self.yard.root.filters)), (9, [], 6))
        settings["loggers"] = {"root": {"level": 4}, "": {"level": 3}}
        self.lay(**settings)
        self.assertEqual(self.yard.root.level, 4)

    def test_without_the_root_it_stays(self):
        before = self.told("")
        self.lay(loggers={"a": {}}, handlers={"h": {"class": "null"}})
        self.assertEqual(self.told(""), before)

    def test_laid_twice(self):
        settings = {"filters": {"u": {}}, "handlers": {"h": {"class": "stream", "stream": "out"}}, "root": {"level": 5, "handlers": ["h"], "filters": ["u"]},
                    "loggers": {"a": {"handlers": ["h"], "propagate": True, "level": 1}}}
        self.lay(**settings)
        first = self.handler("h")
        self.lay(**settings)
        second = self.handler("h")
        self.assertNotEqual(first, second)
        self.assertEqual((self.yard.root.handlers, self.yard.getLogger("a").handlers), ([second], [second]))
        # Filters are put behind those that there are, and those of the first time stay.
        self.assertEqual(len(self.yard.root.filters), 3)
        self.yard.root.removeFilter(self.one)
        self.yard.getLogger("a").removeFilter(self.one)
        self.yard.root.setDisabled(False)
        self.yard.getLogger("a").error("m")
        self.assertEqual(self.yard.text("out"), "m\nm\n")

    def test_refused_ones_change_nothing(self):
        self.old.setName("old")
        before = standing(self.yard)
        for parts, path in (
            ({"handlers": {"h": {"class": "file", "filename": "x"}}, "root": {"handlers": ["h", "i"]}}, ("root", "handlers", 1)),
            ({"handlers": {"h": {"class": "file", "filename": "x"}}, "loggers": {"n": {}, "n.": {}}}, ("loggers", "n.")),
            ({"handlers": {"h": {"class": "memory", "capacity": 1, "target": "h"}}}, ("handlers", "h", "target")),
            ({"version": 2}, ("version",)), ({"formatters": {"f": {"format": "{"}}}, ("formatters", "f")),
        ):
            for _ in range(2):
                with self.assertRaises(BadSettings) as caught:
                    configure(self.yard, {"version": 1, "incremental": False} | parts)
                self.assertEqual((caught.exception.path, standing(self.yard)), (path, before))
        self.assertEqual((self.old.closed, all_loggers(self.yard)[0].handlers), (False, [self.old]))
