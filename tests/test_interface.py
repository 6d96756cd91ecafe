"""The last section of the document: names, arguments and files; and what holds for modules and classes."""

import ast
import importlib
import inspect
import pathlib
import unittest

from recordyard.adapters import LoggerAdapter
from recordyard.filters import Filter
from recordyard.formatters import Formatter
from recordyard.queues import Queue, QueueListener
from recordyard.yards import Yard
from tests.helpers import one_of_each

PACKAGE = pathlib.Path(__file__).resolve().parent.parent / "recordyard"
LOGGING = {word: "(self, msg, args=(), extra=None)" for word in ("debug", "info", "warning", "error", "critical")}
LOGGING["log"] = "(self, level, msg, args=(), extra=None)"
HANDLING = {
    "setLevel": "(self, level)", "setFormatter": "(self, formatter)", "setTerminator": "(self, text)", "setName": "(self, name)",
    "addFilter": "(self, one)", "removeFilter": "(self, one)", "filtered": "(self, record)", "handle": "(self, record)",
    "formatted": "(self, record)", "flush": "(self)", "close": "(self)",
}
INTERFACE = {
    "records": {"LogRecord": {"field": "(self, name)", "message": "(self)"}},
    "formatters": {"Formatter": {
        "__init__": "(self, fmt=None, style='{', validate=True, defaults=None)", "formatted": "(self, record)",
        "uses_time": "(self)", "fields": "(self)",
    }},
    "filters": {"Filter": {"__init__": "(self, name='')", "passes": "(self, record)"}},
    "loggers": {"Logger": {
        **LOGGING, "setLevel": "(self, level)", "setPropagate": "(self, flag)", "setDisabled": "(self, flag)",
        "getChild": "(self, suffix)", "getChildren": "(self)", "getEffectiveLevel": "(self)", "isEnabledFor": "(self, level)",
        "addHandler": "(self, handler)", "removeHandler": "(self, handler)", "hasHandlers": "(self)", "addFilter": "(self, one)",
        "removeFilter": "(self, one)", "filtered": "(self, record)", "handle": "(self, record)",
    }},
    "adapters": {"LoggerAdapter": {
        **LOGGING, "__init__": "(self, logger, extra=None, merge_extra=False)", "isEnabledFor": "(self, level)",
        "setLevel": "(self, level)", "getEffectiveLevel": "(self)", "hasHandlers": "(self)",
    }},
    "handlers": {
        "StreamHandler": {**HANDLING, "__init__": "(self, yard, stream='stderr')", "setStream": "(self, stream)"},
        "NullHandler": {**HANDLING, "__init__": "(self, yard)"},
    },
    "yards": {"Yard": {
        "__init__": "(self, now=0)", "now": "(self)", "advance": "(self, milliseconds)", "text": "(self, stream)", "streams": "(self)",
        "files": "(self)", "put_file": "(self, name, text)", "remove_file": "(self, name)", "add_level_name": "(self, level, name)",
        "level_name": "(self, level)", "level_names": "(self)", "make_record": "(self, name, level, msg, args=(), extra=None)",
        "getLogger": "(self, name='')", "loggers": "(self)", "disable": "(self, level=50)", "bar": "(self)",
        "getHandlerByName": "(self, name)", "getHandlerNames": "(self)", "failures": "(self)", "shutdown": "(self)",
    }},
    "files": {"FileHandler": {**HANDLING, "__init__": "(self, yard, filename, mode='a', delay=False)"}},
    "rotating": {"RotatingFileHandler": {
        **HANDLING, "__init__": "(self, yard, filename, mode='a', maxBytes=0, backupCount=0, delay=False)",
        "shouldRollover": "(self, record)", "doRollover": "(self)", "setNamer": "(self, function)",
    }},
    "timed": {"TimedRotatingFileHandler": {
        **HANDLING, "__init__": "(self, yard, filename, when='H', interval=1, backupCount=0, delay=False)",
        "shouldRollover": "(self, record)", "doRollover": "(self)", "getFilesToDelete": "(self)",
    }},
    "memory": {"MemoryHandler": {
        **HANDLING, "__init__": "(self, yard, capacity, flushLevel=40, target=None, flushOnClose=True)", "buffer": "(self)",
        "shouldFlush": "(self, record)", "setTarget": "(self, target)",
    }},
    "queues": {
        "Queue": {"__init__": "(self)", "put": "(self, record)", "get": "(self)", "__len__": "(self)"},
        "QueueHandler": {**HANDLING, "__init__": "(self, yard, queue)"},
        "QueueListener": {"__init__": "(self, queue, handlers, respect_handler_level=False)", "run": "(self, many=None)"},
    },
}
FUNCTIONS = {
    "settings": {"wrong": "(yard, settings)", "configure": "(yard, settings)"},
    "copies": {"copied": "(yard)"},
    "judging": {"offence": "(yard)", "outcome": "(yard, record)"},
    "tables": {
        "mentions": "(yards)", "bounds": "(yards)", "table": "(yard, names, levels)", "told_by": "(rows, record)",
    },
    "differences": {"difference": "(one, other)", "alike": "(one, other)"},
    "changes": {"laid": "(yard, settings)", "change": "(yard, settings)", "swapped": "(yard, one, two)"},
    "deeds": {"deeds": "(yard)", "done": "(yard, deed)", "idle": "(yard)"},
    "overlays": {"overlay": "(yard, goal)", "overlaid": "(entries)"},
}
COMMON = ["yard", "level", "formatter", "filters", "name", "terminator"]
ATTRIBUTES = {
    "LogRecord": ["name", "levelno", "levelname", "msg", "given", "created", "extra"],
    "Filter": ["name"],
    "Logger": ["yard", "name", "level", "propagate", "disabled", "handlers", "filters", "parent"],
    "LoggerAdapter": ["name"],
    "Yard": ["root"],
    "StreamHandler": COMMON + ["stream"],
    "NullHandler": COMMON,
    "FileHandler": COMMON + ["filename"],
    "RotatingFileHandler": COMMON + ["filename"],
    "TimedRotatingFileHandler": COMMON + ["filename", "rolloverAt"],
    "MemoryHandler": COMMON,
    "QueueHandler": COMMON + ["queue", "listener"],
}


def imports(path):
    """The modules of the package that a file imports from."""
    tree = ast.parse(path.read_text())
    return [node.module.split(".")[1] for node in ast.walk(tree) if isinstance(node, ast.ImportFrom)
            and node.module.startswith("recordyard.")]


class Interface(unittest.TestCase):
    def test_each_class_and_method_stands_where_it_is_listed(self):
        for module, classes in INTERFACE.items():
            for name, methods in classes.items():
                listed = getattr(importlib.import_module("recordyard." + module), name)
                self.assertEqual(listed.__module__, "recordyard." + module)
                for method, told in methods.items():
                    self.assertIn(method, vars(listed))
                    self.assertEqual(str(inspect.signature(vars(listed)[method])), told, name + "." + method)

    def test_each_function_stands_where_it_is_listed(self):
        for module, functions in FUNCTIONS.items():
            for name, told in functions.items():
                listed = getattr(importlib.import_module("recordyard." + module), name)
                self.assertEqual(listed.__module__, "recordyard." + module)
                self.assertEqual(str(inspect.signature(listed)), told, name)

    def test_constants(self):
        levels = importlib.import_module("recordyard.levels")
        told = [getattr(levels, name) for name in ("CRITICAL", "ERROR", "WARNING", "INFO", "DEBUG", "NOTSET")]
        self.assertEqual(told, [50, 40, 30, 20, 10, 0])

    def things(self):
        yard = Yard()
        things = [yard, yard.make_record("a", 20, "m"), Filter(), yard.root, yard.getLogger("a"), LoggerAdapter(yard.root)]
        return things + one_of_each(yard)

    def test_attributes_are_set_when_an_object_is_made(self):
        things = self.things()
        self.assertEqual({type(thing).__name__ for thing in things}, set(ATTRIBUTES))
        for thing in things:
            for name in ATTRIBUTES[type(thing).__name__]:
                self.assertIn(name, vars(thing))

    def test_objects_are_equal_only_to_themselves(self):
        for thing in self.things() + [Formatter(), Queue(), QueueListener(Queue(), [])]:
            self.assertIs(type(thing).__eq__, object.__eq__)

    def test_modules_do_not_import_one_another_in_a_circle(self):
        needed = {path.stem: imports(path) for path in PACKAGE.glob("*.py")}
        while needed:
            free = [name for name in needed if not any(other in needed for other in needed[name])]
            self.assertNotEqual(free, [], needed)
            for name in free:
                del needed[name]
