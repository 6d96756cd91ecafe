"""[30], [31]: settings, and what is wrong first with those that are refused."""

import copy
import unittest

from recordyard.errors import BadSettings
from recordyard.handlers import StreamHandler
from recordyard.settings import configure, wrong
from recordyard.yards import Yard
from tests.helpers import objects, standing

WORDS = {
    "stream": {"stream"}, "null": set(), "file": {"filename", "mode", "delay"},
    "rotating": {"filename", "mode", "maxBytes", "backupCount", "delay"},
    "timed": {"filename", "when", "interval", "backupCount", "delay"},
    "memory": {"capacity", "flushLevel", "target", "flushOnClose"}, "queue": {"handlers", "respect_handler_level"},
}
COMMON = {"class", "level", "formatter", "filters", "terminator"}
NEEDED = {"file": "filename", "rotating": "filename", "timed": "filename", "memory": "capacity"}
# For each key: values that are right, and values that are wrong though of a kind that might do.
FLAG = ((True, False), (0, 1, None, "True"))
TEXT = (("", "a", "two\nlines"), (None, 0, ["a"], True))
COUNT = ((0, 1, 10 ** 18), (-1, True, False, None, "1"))
VALUES = {
    "level": ((0, -5, 10 ** 18, "INFO", "WARN", "own"), (True, False, None, "info", "", "Level 5", [10], {})),
    "terminator": TEXT, "stream": TEXT, "name": TEXT,
    "filename": (("a", "."), ("", None, 0, ["a"], True)),
    "mode": (("a", "w"), ("", "x", "aw", None, True, ["a"])),
    "delay": FLAG, "flushOnClose": FLAG, "respect_handler_level": FLAG, "propagate": FLAG, "validate": FLAG,
    "maxBytes": COUNT, "backupCount": COUNT, "capacity": COUNT,
    "when": (("S", "m", "MidNight", "w6"), ("", "W", "W7", "X", None, 5, ["S"])),
    "interval": ((1, 1000), (0, -1, True, None, "1")),
    "flushLevel": ((0, -1, 50), (True, None, "ERROR")),
    "format": ((None, "{name}", "{message:>5}"), (0, True, ["{name}"], {})),
    "style": (("{",), ("", "[", None, True, ["{"])),
    "defaults": ((None, {}, {"a": [1]}), (0, [], "a", True)),
    "formatter": (("f", ""), ("g", None, 0, True, ["f"], {}, "h", "u")),
    "target": (("h", ""), ("f", None, 0, True, ["h"], {}, "none")),
}


def whole():
    """Settings with a row of each kind, all right."""
    return {
        "version": 1,
        "formatters": {"f": {"format": "{name} {x}", "style": "{", "validate": True, "defaults": {"x": 1}}, "": {}},
        "filters": {"u": {"name": "a"}, "v": {}},
        "handlers": {
            "": {"class": "null"}, "h": {"class": "stream", "level": "INFO", "formatter": "f", "filters": ["u", "v", "u"], "terminator": ""},
            "m": {"class": "memory", "capacity": 5, "target": "h"}, "q": {"class": "queue", "handlers": ["h", "m", "h"]},
        },
        "loggers": {"a": {"level": 5, "propagate": False, "filters": ("u",), "handlers": ["h", "m"]}, "": {"level": 3}},
        "root": {"level": 10, "filters": [], "handlers": ["q"]},
    }


def needed(word):
    return {"class": word} | {"filename": {"filename": "log"}, "capacity": {"capacity": 2}, None: {}}[NEEDED.get(word)]


class Wrong(unittest.TestCase):
    def setUp(self):
        self.yard = Yard()
        self.yard.add_level_name(7, "own")

    def check(self, settings, path):
        """wrong tells the path, by position and by name, changes nothing, and configure refuses the settings with it."""
        before, kept = standing(self.yard), copy.deepcopy(settings)
        for told in (wrong(self.yard, settings), wrong(settings=settings, yard=self.yard)):
            self.assertEqual(told, path, settings)
            self.assertTrue(told is None or type(told) is tuple)
        if path is not None:
            for _ in range(2):
                with self.assertRaises(BadSettings) as caught:
                    configure(self.yard, settings)
                self.assertEqual(caught.exception.path, path)
        self.assertEqual((standing(self.yard), settings), (before, kept))


class Top(Wrong):
    def test_settings_that_are_no_dict(self):
        for thing in objects():
            if not isinstance(thing, dict):
                self.check(thing, ())
        self.check([("version", 1)], ())

    def test_the_version(self):
        self.check({}, ("version",))
        self.check({"version": 1}, None)
        for thing in objects() + [2, -1, "1", True]:
            if thing != 1 or type(thing) is bool:
                self.check({"version": thing}, ("version",))
        self.check({"root": {}, "incremental": True}, ("version",))

    def test_keys_that_there_are_not(self):
        for key in ("", "Version", "formatter", "zzz", "propagate", "class", "disable_existing"):
            self.check({"version": 1, key: {}}, (key,))

    def test_values_of_other_kinds(self):
        kinds = {
            "incremental": bool, "disable_existing_loggers": bool, "formatters": dict, "filters": dict, "handlers": dict,
            "loggers": dict, "root": dict,
        }
        for key, kind in kinds.items():
            for thing in objects():
                if type(thing) is not kind:
                    self.check({"version": 1, key: thing}, (key,))
                    # Also where the key is passed over otherwise.
                    self.check({"version": 1, "incremental": key != "incremental" or thing, key: thing}, (key,))
            for thing in ([True, False] if kind is bool else [{}]):
                self.check({"version": 1, key: thing}, None)

    def test_they_go_ascending_and_the_missing_version_last(self):
        self.check({"zz": 1, "aa": 1, "version": 2}, ("aa",))
        self.check({"zz": 1, "version": 2, "handlers": {"x": 5}}, ("version",))
        self.check({"zz": 1, "root": 5}, ("root",))
        self.check({"zz": 1, "handlers": {"x": 5}}, ("zz",))
        self.check({"root": {"x": 5}}, ("version",))
        self.check({"version": 1, "root": [], "handlers": {"x": 5}}, ("root",))
        self.check({"version": 1, "disable_existing_loggers": 1, "incremental": 1}, ("disable_existing_loggers",))


class Rows(Wrong):
    def change(self, section, key, row, path=()):
        settings = whole()
        settings[section][key] = row
        self.check(settings, None if path is None else (section, key, *path))

    def test_right_settings(self):
        self.check(whole(), None)
        self.check(whole() | {"incremental": False, "disable_existing_loggers": False}, None)

    def test_rows_that_are_no_dicts(self):
        for thing in objects():
            if not isinstance(thing, dict):
                for section in ("formatters", "filters", "handlers", "loggers"):
                    self.change(section, "a", thing)

    def test_names_that_are_none_of_loggers(self):
        for name in ("a.", ".a", "a..b", ".", " ", "a b", "a-b", "a\n", "{", "a.b.", "$"):
            self.change("loggers", name, {})
            self.change("loggers", name, 5)
        for name in ("", "root", "root.a", "A.b_c.9", "_", "0", "x"):
            self.change("loggers", name, {}, None)

    def test_keys_that_are_not_told(self):
        for section, key, row, told in (
            ("formatters", "f", {}, {"format", "style", "validate", "defaults"}), ("filters", "u", {}, {"name"}),
            ("loggers", "a", {}, {"level", "propagate", "filters", "handlers"}), ("loggers", "", {}, {"level", "filters", "handlers"}),
            ("loggers", "root", {}, {"level", "filters", "handlers"}),
            *[("handlers", "x", needed(word), COMMON | keys) for word, keys in WORDS.items()],
        ):
            for other in ("", "none", "fmt", "()", "Class", "disabled", "yard", "queue", "listener", "version", *VALUES, "filters", "handlers", "class"):
                if other not in told and other not in row:
                    value = VALUES.get(other, [["u"]])[0][0]
                    self.change(section, key, row | {other: value}, (other,))

    def test_the_word_of_a_class(self):
        for row in ({}, {"level": "none"}, {"filename": "x", "aaa": 1}):
            self.change("handlers", "x", row, ("class",))
        for word in ("", "Stream", "streams", "StreamHandler", "logging.StreamHandler"):
            self.change("handlers", "x", {"class": word}, ("class",))
        for thing in objects():
            self.change("handlers", "x", {"class": thing, "aaa": 1}, ("class",))
        for word in WORDS:
            self.change("handlers", "x", needed(word), None)

    def test_values_of_handlers(self):
        for word, keys in WORDS.items():
            for key in (COMMON | keys) - {"class", "filters", "handlers"}:
                right, bad = VALUES[key]
                for value in right:
                    self.change("handlers", "x", needed(word) | {key: value}, None)
                for value in bad:
                    self.change("handlers", "x", needed(word) | {key: value}, (key,))
                for value in objects():
                    if type(value) not in {type(one) for one in right}:
                        self.change("handlers", "x", needed(word) | {key: value}, (key,))

    def test_values_of_formatters_filters_and_loggers(self):
        for section, key, keys in (
            ("formatters", "f", ("format", "style", "validate", "defaults")), ("filters", "u", ("name",)),
            ("loggers", "a", ("level", "propagate")), ("loggers", "", ("level",)), ("loggers", "root", ("level",)),
        ):
            for one in keys:
                right, bad = VALUES[one]
                for value in right:
                    self.change(section, key, {one: value}, None)
                for value in bad:
                    self.change(section, key, {one: value}, (one,))
                for value in objects():
                    if type(value) not in {type(each) for each in right}:
                        self.change(section, key, {one: value}, (one,))

    def test_lists_of_ids(self):
        rows = [("handlers", "x", needed(word), "filters", "u") for word in WORDS] + [("handlers", "x", needed("queue"), "handlers", "h")]
        for name in ("a", "", "root"):
            rows += [("loggers", name, {}, "filters", "u"), ("loggers", name, {}, "handlers", "h")]
        for section, key, row, word, known in rows:
            for right in ([], (), [known], (known, known)):
                self.change(section, key, row | {word: right}, None)
            for thing in objects():
                if not isinstance(thing, (list, tuple)):
                    self.change(section, key, row | {word: thing}, (word,))
                if not isinstance(thing, str):
                    self.change(section, key, row | {word: [known, thing, None]}, (word, 1))
                    self.change(section, key, row | {word: (thing, known)}, (word, 0))
            self.change(section, key, row | {word: [known, known, known, "f", "none"]}, (word, 3))
            self.change(section, key, row | {word: ["none", "f"]}, (word, 0))
            self.change(section, key, row | {word: known}, (word,))

    def test_the_root(self):
        for row, path in (
            ({}, None), ({"level": 0, "handlers": ("h",), "filters": ["v"]}, None), ({"level": "none"}, ("level",)),
            ({"propagate": True}, ("propagate",)), ({"handlers": ["h", "g"]}, ("handlers", 1)), ({"handlers": "h"}, ("handlers",)),
            ({"filters": ["h"]}, ("filters", 0)), ({"level": True, "filters": 5}, ("filters",)), ({"x": 1, "level": True}, ("level",)),
        ):
            self.check(whole() | {"root": row}, None if path is None else ("root", *path))

    def test_what_is_missing(self):
        for word, key in NEEDED.items():
            self.change("handlers", "x", {"class": word}, (key,))
            self.change("handlers", "x", {"class": word, "terminator": 5}, ("terminator",))
            self.change("handlers", "x", {"class": word, "zzz": 5}, ("zzz",))

    def test_formats_that_are_refused(self):
        for row, path in (
            ({"format": "no field"}, ()), ({"format": ""}, ()), ({"format": "{"}, ()), ({"format": "{name:05}"}, ()),
            ({"format": "{name}", "style": "$"}, ()), ({"format": "$name"}, ()), ({"format": "$name", "style": "$"}, None),
            ({"format": "$$", "style": "$"}, ()), ({"style": "$"}, None), ({"format": None, "style": "$"}, None),
            ({"format": "no field", "validate": False}, None), ({"format": "", "validate": False}, None),
            ({"format": "}", "validate": False}, ()), ({"format": "no field", "validate": True, "defaults": {"a": 1}}, ()),
            ({"format": "{", "style": "no"}, ("style",)), ({"format": "{", "validate": 0}, ("validate",)), ({"format": "{", "x": 0}, ("x",)),
        ):
            self.change("formatters", "f", row, path)

    def test_an_id_counts_whatever_stands_behind_it(self):
        settings = whole()
        settings["handlers"] = {"m": {"class": "memory", "capacity": 1, "target": "z"}, "z": 5}
        self.check(settings, ("handlers", "z"))
        settings["handlers"] = {"m": {"class": "queue", "handlers": ["z", "y"]}, "z": 5}
        self.check(settings, ("handlers", "m", "handlers", 1))

    def test_ids_are_those_of_the_settings_alone(self):
        handler = StreamHandler(self.yard)
        handler.setName("mine")
        self.check({"version": 1, "root": {"handlers": ["mine"]}}, ("root", "handlers", 0))
        self.check({"version": 1, "root": {"filters": ["u"]}}, ("root", "filters", 0))
        self.check({"version": 1, "handlers": {"h": {"class": "null", "formatter": "f"}}}, ("handlers", "h", "formatter"))

    def test_several_things_at_once(self):
        settings = {"version": 1, "formatters": {"b": 5, "a": {"x": 1}}, "filters": {"z": 5, "y": {"name": 5, "a": 5}},
                    "handlers": {"k": {"class": "null", "x": 1}, "j": {"class": "none"}, "i": {"class": "file", "mode": "a"}},
                    "loggers": {"b": 5, "a b": {}, "a": {"level": None, "handlers": ["q"]}}, "root": {"x": 1, "level": "q"}}
        for path, right in (
            (("formatters", "a", "x"), {}), (("formatters", "b"), {}), (("filters", "y", "a"), {"name": 5}),
            (("filters", "y", "name"), {}), (("filters", "z"), {}), (("handlers", "i", "filename"), {"class": "null"}),
            (("handlers", "j", "class"), {"class": "null"}), (("handlers", "k", "x"), {"class": "null"}),
            (("loggers", "a", "handlers", 0), {"level": None}), (("loggers", "a", "level"), {}),
            (("loggers", "a b"), None), (("loggers", "b"), {}), (("root", "level"), {"x": 1}), (("root", "x"), {}),
        ):
            self.check(settings, path)
            if path[0] == "root":
                settings["root"] = right
            elif right is None:
                del settings[path[0]][path[1]]
            else:
                settings[path[0]][path[1]] = right
        self.check(settings, None)


class Circles(Wrong):
    def circle(self, path, **rows):
        """Rows are told as the id of a target, or as a list of ids."""
        handlers = {}
        for key, leads in rows.items():
            if leads is None:
                handlers[key] = {"class": "null"}
            elif isinstance(leads, str):
                handlers[key] = {"class": "memory", "capacity": 1, "target": leads}
            else:
                handlers[key] = {"class": "queue", "handlers": leads}
        self.check({"version": 1, "handlers": handlers}, None if path is None else ("handlers", *path))

    def test_targets(self):
        self.circle(("a", "target"), a="a")
        self.circle(("a", "target"), b="a", a="b")
        self.circle(("a", "target"), c="a", b="c", a="b")
        self.circle(("b", "target"), a="b", b="c", c="b")
        self.circle(None, a="b", b="c", c=None)

    def test_listeners(self):
        self.circle(("a", "handlers", 0), a=["a"])
        self.circle(("a", "handlers", 2), a=["b", "c", "a"], b=None, c="b")
        self.circle(("a", "handlers", 1), a=["b", "c", "d", "c"], b=None, c=["d", "b", "a"], d=["b"])
        self.circle(("b", "handlers", 1), a=["b", "b"], b=["d", "c"], c=("b",), d=None)
        self.circle(None, a=["b", "c", "b"], b=["c", "d"], c=["d"], d=[])

    def test_both(self):
        self.circle(("a", "target"), a="b", b=["c", "d"], c=None, d=["c", "a"])
        self.circle(("b", "handlers", 1), a="b", b=["c", "d"], c=None, d=["c", "e"], e="b")
        # The circle is not that of the first handler, which only leads to it.
        self.circle(("y", "target"), a="y", y="z", z="y")

    def test_they_come_last(self):
        self.check({"version": 1, "handlers": {"a": {"class": "memory", "capacity": 1, "target": "a"}}, "root": {"x": 1}}, ("root", "x"))
        self.check({"version": 1, "handlers": {"a": {"class": "memory", "target": "a"}}}, ("handlers", "a", "capacity"))
        self.circle(None, a="b", b=None)


class Incremental(Wrong):
    def setUp(self):
        super().setUp()
        self.handlers = [StreamHandler(self.yard) for _ in range(4)]
        for handler, name in zip(self.handlers, ("h", "gone", "taken", "renamed")):
            handler.setName(name)
        self.handlers[1].close()
        self.handlers[0].setName("taken")
        self.handlers[0].setName("h")
        self.handlers[3].setName("new")

    def step(self, path, **parts):
        self.check({"version": 1, "incremental": True} | parts, path)

    def test_handlers(self):
        for key in ("h", "new"):
            for row, path in (({}, None), ({"level": 5}, None), ({"level": "own"}, None), ({"level": "OWN"}, ("level",)), ({"level": True}, ("level",))):
                self.step(None if path is None else ("handlers", key, *path), handlers={key: row})
            for thing in objects():
                if not isinstance(thing, dict):
                    self.step(("handlers", key), handlers={key: thing})
        # taken leads nowhere, as the handler that was given it last has another name by now.
        for key in ("gone", "renamed", "taken", "none", ""):
            self.step(("handlers", key), handlers={key: {}})
            self.step(("handlers", key), handlers={key: {"level": "none"}})

    def test_all_values_of_levels(self):
        right, bad = VALUES["level"]
        for value in list(right) + list(bad) + objects():
            good = value in right and type(value) is not bool or type(value) is int
            self.step(None if good else ("handlers", "h", "level"), handlers={"h": {"level": value}})
            self.step(None if good else ("loggers", "x", "level"), loggers={"x": {"level": value}})
            self.step(None if good else ("loggers", "", "level"), loggers={"": {"level": value}})
            self.step(None if good else ("root", "level"), root={"level": value})

    def test_loggers(self):
        for name in ("a.", " ", ".", "a..b"):
            self.step(("loggers", name), loggers={name: {}})
        for thing in objects():
            if not isinstance(thing, dict):
                self.step(("loggers", "a"), loggers={"a": thing})
            if type(thing) is not bool:
                self.step(("loggers", "a", "propagate"), loggers={"a": {"propagate": thing}})
                self.step(None, loggers={"": {"propagate": thing}, "root": {"propagate": thing}}, root={"propagate": thing})
        self.step(None, loggers={"a": {"propagate": True, "level": "WARN"}, "root.a": {"propagate": False}})

    def test_all_other_keys_are_passed_over(self):
        self.step(None, formatters={"f": 5, "g": {"format": "{"}}, filters={"u": None}, disable_existing_loggers=True)
        self.step(None, handlers={"h": {"class": 5, "x": 1, "formatter": [], "propagate": 5}}, loggers={"a": {"handlers": 5, "filters": ["u"], "y": 0}})
        self.step(None, root={"handlers": ["none"], "x": 1})
        self.step(("formatters",), formatters=[])

    def test_the_order(self):
        rows = {"h": {"level": []}, "h2": {}, "new": 5}
        loggers = {"b": {"level": [], "propagate": 1}, "a b": {}, "": {"level": None}}
        root = {"level": "none"}
        self.step(("handlers", "h", "level"), handlers=rows, loggers=loggers, root=root)
        self.step(("handlers", "h2"), handlers=rows | {"h": {}}, loggers=loggers, root=root)
        self.step(("handlers", "new"), handlers={"new": 5}, loggers=loggers, root=root)
        self.step(("loggers", "", "level"), handlers={}, loggers=loggers, root=root)
        self.step(("loggers", "a b"), loggers=loggers | {"": {}}, root=root)
        self.step(("loggers", "b", "level"), loggers={"b": loggers["b"]}, root=root)
        self.step(("loggers", "b", "propagate"), loggers={"b": {"level": 1, "propagate": 1}}, root=root)
        self.step(("root", "level"), loggers={"root": {"propagate": 1}}, root=root)
