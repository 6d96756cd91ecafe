"""[3]: each function, class and method of the interface, called with its arguments by position and by name."""

import inspect
import unittest

from recordyard.adapters import LoggerAdapter
from recordyard.changes import change, laid, swapped
from recordyard.copies import copied
from recordyard.deeds import deeds, done, idle
from recordyard.differences import alike, difference
from recordyard.files import FileHandler
from recordyard.filters import Filter
from recordyard.formatters import Formatter
from recordyard.handlers import NullHandler, StreamHandler
from recordyard.judging import offence, outcome
from recordyard.loggers import Logger
from recordyard.memory import MemoryHandler
from recordyard.overlays import overlaid, overlay
from recordyard.queues import Queue, QueueHandler, QueueListener
from recordyard.records import LogRecord
from recordyard.rotating import RotatingFileHandler
from recordyard.settings import configure, wrong
from recordyard.tables import bounds, mentions, table, told_by
from recordyard.timed import TimedRotatingFileHandler
from recordyard.yards import Yard
from tests.helpers import all_loggers
from tests.test_interface import FUNCTIONS, INTERFACE

HANDLERS = (
    lambda yard: StreamHandler(yard, "out"), NullHandler, lambda yard: FileHandler(yard, "f"), lambda yard: RotatingFileHandler(yard, "f"),
    lambda yard: TimedRotatingFileHandler(yard, "f"), lambda yard: MemoryHandler(yard, 2), lambda yard: QueueHandler(yard, Queue()),
)
SETTINGS = {"version": 1, "incremental": True, "root": {"level": 5}}


def shown(thing, depth=0):
    """What a thing tells of itself, whatever yard it is of."""
    if isinstance(thing, (list, tuple)):
        return [shown(one, depth) for one in thing]
    if isinstance(thing, dict):
        return {key: shown(thing[key], depth) for key in thing}
    if isinstance(thing, Yard):
        streams = {name: thing.text(name) for name in thing.streams()}
        return [thing.now(), streams, thing.files(), thing.level_names(), thing.bar(), shown(all_loggers(thing), depth), thing.failures()]
    if isinstance(thing, (Logger, LogRecord, Filter)) or hasattr(thing, "terminator"):
        names = ("name", "level", "propagate", "disabled", "levelno", "levelname", "msg", "given", "created", "extra", "terminator", "stream",
                 "filename", "rolloverAt", "handlers", "filters")
        parts = [shown(getattr(thing, name, None), depth + 1) for name in names]
        return [type(thing).__name__, parts, shown(getattr(thing, "formatter", None))]
    if isinstance(thing, (Formatter, LoggerAdapter, Queue, QueueListener)):
        return type(thing).__name__
    return thing if not callable(thing) else "function"


def started():
    """A yard with a few things, always alike."""
    yard = Yard(5000)
    handler = StreamHandler(yard, "out")
    handler.setName("h")
    yard.root.addHandler(handler)
    yard.getLogger("a.b").setLevel(5)
    yard.put_file("f", "text")
    return yard


def record(yard):
    return yard.make_record("a", 40, "m {}", (1,), {"k": 2})


class Calls(unittest.TestCase):
    def check(self, place, arguments):
        """place takes a yard, and returns what is called there; arguments the same, and returns the list of what is passed."""
        told = []
        for by_name in (False, True):
            yard = started()
            function, passed = place(yard), arguments(yard)
            names = list(inspect.signature(function).parameters)
            self.assertGreaterEqual(len(names), len(passed))
            result = function(**dict(zip(names, passed))) if by_name else function(*passed)
            told.append([shown(result), shown(yard)])
        self.assertEqual(told[0], told[1])
        self.seen.add(getattr(function, "__qualname__", function.__class__.__name__))
        return told[0][0]

    def setUp(self):
        self.seen = set()

    def of_class(self, module, name):
        """All methods that are listed for a class were called, and itself."""
        for method in INTERFACE[module][name]:
            self.assertIn(name if method == "__init__" else name + "." + method, self.seen | {name + ".__len__"})

    def test_yards(self):
        self.check(lambda yard: Yard, lambda yard: [7])
        for method, passed in (
            ("now", []), ("advance", [5]), ("text", ["out"]), ("streams", []), ("files", []), ("put_file", ["g", "x"]), ("remove_file", ["f"]),
            ("add_level_name", [7, "own"]), ("level_name", [7]), ("level_names", []), ("make_record", ["a", "INFO", "m {}", (1,), {"x": 1}]),
            ("getLogger", ["n"]), ("loggers", []), ("disable", ["ERROR"]), ("bar", []), ("getHandlerByName", ["h"]), ("getHandlerNames", []),
            ("failures", []), ("shutdown", []),
        ):
            self.check(lambda yard: getattr(yard, method), lambda yard: passed)
        self.of_class("yards", "Yard")

    def test_loggers(self):
        logging = ["m {}", (1,), {"x": 1}]
        for method, arguments in (
            ("setLevel", lambda yard: ["ERROR"]), ("setPropagate", lambda yard: [False]), ("setDisabled", lambda yard: [True]), ("getChild", lambda yard: ["c"]),
            ("getChildren", lambda yard: []), ("getEffectiveLevel", lambda yard: []), ("isEnabledFor", lambda yard: [5]),
            ("addHandler", lambda yard: [NullHandler(yard)]), ("removeHandler", lambda yard: [yard.root.handlers[0]]), ("hasHandlers", lambda yard: []),
            ("addFilter", lambda yard: [Filter("a")]), ("removeFilter", lambda yard: [Filter("a")]), ("filtered", lambda yard: [record(yard)]),
            ("log", lambda yard: [30] + logging), ("handle", lambda yard: [record(yard)]),
            *[(name, lambda yard: logging) for name in ("debug", "info", "warning", "error", "critical")],
        ):
            for name in ("", "a.b"):
                self.check(lambda yard: getattr(yard.getLogger(name), method), arguments)
        self.of_class("loggers", "Logger")

    def test_adapters(self):
        self.check(lambda yard: LoggerAdapter, lambda yard: [yard.root, {"x": 2}, True])
        logging = ["m {}", (1,), {"x": 1}]
        for method, arguments in (
            ("log", [30] + logging), ("isEnabledFor", [30]), ("setLevel", [5]), ("getEffectiveLevel", []), ("hasHandlers", []),
            *[(name, logging) for name in ("debug", "info", "warning", "error", "critical")],
        ):
            self.check(lambda yard: getattr(LoggerAdapter(yard.root, {"y": 1}, merge_extra=True), method), lambda yard: arguments)
        self.of_class("adapters", "LoggerAdapter")

    def test_records_formatters_and_filters(self):
        self.check(lambda yard: record(yard).field, lambda yard: ["message"])
        self.check(lambda yard: record(yard).message, lambda yard: [])
        self.of_class("records", "LogRecord")
        self.check(lambda yard: Formatter, lambda yard: ["$x", "$", False, {"x": 1}])
        self.check(lambda yard: Formatter("{k} {name}").formatted, lambda yard: [record(yard)])
        self.check(lambda yard: Formatter("{k} {name}").uses_time, lambda yard: [])
        self.check(lambda yard: Formatter("{k} {name}").fields, lambda yard: [])
        self.of_class("formatters", "Formatter")
        self.check(lambda yard: Filter, lambda yard: ["a"])
        self.check(lambda yard: Filter("b").passes, lambda yard: [record(yard)])
        self.of_class("filters", "Filter")

    def test_what_all_handlers_have(self):
        for make in HANDLERS:
            for method, arguments in (
                ("setLevel", lambda yard: ["ERROR"]), ("setFormatter", lambda yard: [Formatter("{name}")]), ("setTerminator", lambda yard: ["!"]),
                ("setName", lambda yard: ["h"]), ("addFilter", lambda yard: [Filter("a")]), ("removeFilter", lambda yard: [Filter("a")]),
                ("filtered", lambda yard: [record(yard)]), ("handle", lambda yard: [record(yard)]), ("formatted", lambda yard: [record(yard)]),
                ("flush", lambda yard: []), ("close", lambda yard: []),
            ):
                self.check(lambda yard: getattr(make(yard), method), arguments)
            self.assertIs(self.check(lambda yard: make(yard).handle, lambda yard: [record(yard)]), True)

    def test_handlers(self):
        for kind, passed in (
            (StreamHandler, ["out"]), (NullHandler, []), (FileHandler, ["f", "w", True]), (RotatingFileHandler, ["f", "a", 5, 2, True]),
            (TimedRotatingFileHandler, ["f", "midnight", 2, 3, True]), (MemoryHandler, [3, 20, None, False]),
        ):
            self.check(lambda yard: kind, lambda yard: [yard] + passed)
        self.check(lambda yard: QueueHandler, lambda yard: [yard, Queue()])
        self.check(lambda yard: yard.root.handlers[0].setStream, lambda yard: ["else"])
        rotating, timed, memory = HANDLERS[3:6]
        self.check(lambda yard: rotating(yard).shouldRollover, lambda yard: [record(yard)])
        self.check(lambda yard: rotating(yard).doRollover, lambda yard: [])
        self.check(lambda yard: rotating(yard).setNamer, lambda yard: [str.upper])
        self.check(lambda yard: timed(yard).shouldRollover, lambda yard: [record(yard)])
        self.check(lambda yard: timed(yard).doRollover, lambda yard: [])
        self.check(lambda yard: timed(yard).getFilesToDelete, lambda yard: [])
        self.check(lambda yard: memory(yard).buffer, lambda yard: [])
        self.check(lambda yard: memory(yard).shouldFlush, lambda yard: [record(yard)])
        self.check(lambda yard: memory(yard).setTarget, lambda yard: [yard.root.handlers[0]])

    def test_queues(self):
        self.check(lambda yard: Queue, lambda yard: [])
        self.check(lambda yard: Queue().put, lambda yard: [record(yard)])
        self.check(lambda yard: Queue().get, lambda yard: [])
        self.of_class("queues", "Queue")
        self.check(lambda yard: QueueListener, lambda yard: [Queue(), [yard.root.handlers[0]], True])
        self.check(lambda yard: QueueListener(Queue(), []).run, lambda yard: [5])
        self.of_class("queues", "QueueListener")

    def test_functions(self):
        rows = table(started(), ["", "a", "a.b"], bounds([started()]))
        for function, arguments in (
            (wrong, lambda yard: [SETTINGS]), (configure, lambda yard: [SETTINGS]), (copied, lambda yard: []), (offence, lambda yard: []),
            (outcome, lambda yard: [("a", 30, "m")]), (difference, lambda yard: [Yard()]), (alike, lambda yard: [Yard()]), (laid, lambda yard: [SETTINGS]),
            (change, lambda yard: [SETTINGS]), (swapped, lambda yard: [SETTINGS, {"version": 1}]), (deeds, lambda yard: []), (done, lambda yard: [("level", "")]),
            (idle, lambda yard: []), (overlay, lambda yard: [Yard()]), (table, lambda yard: [["", "a", "a.b"], bounds([yard])]),
        ):
            self.check(lambda yard: function, lambda yard: [yard] + arguments(yard))
        self.check(lambda yard: mentions, lambda yard: [[yard]])
        self.check(lambda yard: bounds, lambda yard: [[yard]])
        self.check(lambda yard: told_by, lambda yard: [rows, ("a", 30, "m")])
        self.check(lambda yard: overlaid, lambda yard: [[("root", "level", 5)]])
        self.assertEqual(self.seen, {name for functions in FUNCTIONS.values() for name in functions})
