"""[25]: RotatingFileHandler."""

import random
import unittest

from recordyard.errors import BadField, BadMessage
from recordyard.files import FileHandler
from recordyard.formatters import Formatter
from recordyard.rotating import RotatingFileHandler
from recordyard.yards import Yard


def tell(handler, *messages):
    """What handle tells of records with these messages."""
    return [handler.handle(handler.yard.make_record("a", 20, message)) for message in messages]


def fail_at(handler):
    """Let a handler handle a record that cannot be formatted."""
    return handler.handle(handler.yard.make_record("bad", 20, "{", (1,)))


class WithYard(unittest.TestCase):
    def setUp(self):
        self.yard = Yard()
        self.files = self.yard.files

    def make(self, *more, **words):
        return RotatingFileHandler(self.yard, "log", *more, **words)

    def record(self, msg="m", args=()):
        return self.yard.make_record("a", 20, msg, args)


class Making(WithYard):
    def test_parameters(self):
        handler = RotatingFileHandler(delay=True, backupCount=1, maxBytes=6, mode="w", filename="log", yard=self.yard)
        self.assertEqual((handler.filename, self.files()), ("log", {}))
        tell(handler, "abc", "def")
        self.assertEqual(self.files(), {"log": "def\n", "log.1": "abc\n"})

    def test_without_a_size_as_a_file_handler(self):
        for mode in ("a", "w"):
            for delay in (False, True):
                for size in (0, -1, -10 ** 18):
                    told = []
                    for make in (FileHandler, lambda *more: RotatingFileHandler(more[0], "log", mode, size, 3, delay)):
                        yard = Yard()
                        yard.put_file("log", "before\n")
                        handler = make(yard, "log", mode, delay)
                        told.append([yard.files()])
                        tell(handler, "m" * 100, "n")
                        told[-1].append(yard.files())
                    self.assertEqual(told[0], told[1])

    def test_with_a_size_the_mode_is_a_in_any_case(self):
        for mode in ("a", "w"):
            for delay in (False, True):
                self.setUp()
                self.yard.put_file("log", "x")
                handler = self.make(mode, 100, 1, delay)
                self.assertEqual(self.files(), {"log": "x"})
                tell(handler, "m")
                handler.close()
                tell(handler, "n")
                self.assertEqual(self.files(), {"log": "xm\nn\n"})


class Sizes(WithYard):
    def test_just_to_the_size_one_below_and_one_above(self):
        # 5 signs are there; a record of n takes n + 1 more.
        for length, rolls in ((3, False), (4, True), (5, True), (0, False)):
            self.setUp()
            handler = self.make("a", 10, 1)
            tell(handler, "1234")
            self.assertIs(handler.shouldRollover(self.record("x" * length)), rolls)
            tell(handler, "x" * length)
            expected = {"log": "x" * length + "\n", "log.1": "1234\n"} if rolls else {"log": "1234\n" + "x" * length + "\n"}
            self.assertEqual(self.files(), expected)

    def test_the_one_stands_for_no_terminator(self):
        for terminator in ("", "\n", "----"):
            self.setUp()
            handler = self.make("a", 10, 1)
            self.yard.put_file("log", "12345")
            handler.setTerminator(terminator)
            told = [handler.shouldRollover(self.record("x" * length)) for length in (3, 4)]
            self.assertEqual(told, [False, True])

    def test_an_empty_file_or_none_never_rolls_over(self):
        handler = self.make("a", 1, 2)
        self.assertIs(handler.shouldRollover(self.record("x" * 100)), False)
        tell(handler, "x" * 100)
        self.assertEqual(self.files(), {"log": "x" * 100 + "\n"})
        self.yard.remove_file("log")
        self.assertIs(handler.shouldRollover(self.record("x" * 100)), False)
        self.assertEqual(self.files(), {})
        tell(handler, "y")
        self.assertEqual(self.files(), {"log": "y\n"})
        tell(handler, "z")
        self.assertEqual(self.files(), {"log": "z\n", "log.1": "y\n"})

    def test_the_smallest_size_rolls_over_for_each_record(self):
        handler = self.make("a", 1, 3)
        tell(handler, "a", "b", "c", "d", "e")
        self.assertEqual(self.files(), {"log": "e\n", "log.1": "d\n", "log.2": "c\n", "log.3": "b\n"})

    def test_the_formatted_text_counts(self):
        handler = self.make("a", 10, 1)
        handler.setFormatter(Formatter("{message:>4}"))
        self.yard.put_file("log", "12345")
        self.assertIs(handler.shouldRollover(record=self.record("x")), True)
        handler.setFormatter(Formatter("{message:>3}"))
        self.assertIs(handler.shouldRollover(self.record("x")), False)

    def test_what_others_wrote_counts(self):
        handler = self.make("a", 10, 1)
        tell(FileHandler(self.yard, "log"), "12345678")
        tell(handler, "m")
        self.assertEqual(self.files(), {"log": "m\n", "log.1": "12345678\n"})

    def test_without_a_size_it_should_never(self):
        for size in (0, -5):
            handler = self.make("a", size, 1)
            self.yard.put_file("log", "x" * 100)
            self.assertIs(handler.shouldRollover(self.record()), False)


class Backups(WithYard):
    def test_none(self):
        handler = self.make("a", 1, 0)
        self.yard.put_file("log.1", "x")
        tell(handler, "a", "b", "c")
        self.assertEqual(self.files(), {"log": "a\nb\nc\n", "log.1": "x"})

    def test_one(self):
        handler = self.make("a", 1, backupCount=1)
        tell(handler, "a", "b", "c")
        self.assertEqual(self.files(), {"log": "c\n", "log.1": "b\n"})

    def test_the_first_one_stays_where_there_is_no_file(self):
        for count, behind in ((1, {"log.1": "x"}), (2, {"log.2": "x"}), (0, {"log.1": "x"})):
            for delay in (False, True):
                self.setUp()
                handler = self.make("a", 10, count, delay)
                self.yard.put_file("log.1", "x")
                self.yard.remove_file("log")
                self.assertIsNone(handler.doRollover())
                self.assertEqual(self.files(), behind if delay else {**behind, "log": ""})

    def test_holes_in_the_row(self):
        handler = self.make("a", 10, 5)
        for number in (1, 3, 5, 6):
            self.yard.put_file("log." + str(number), str(number))
        self.yard.put_file("log", "0")
        handler.doRollover()
        self.assertEqual(self.files(), {"log": "", "log.1": "0", "log.2": "1", "log.4": "3", "log.5": "5", "log.6": "6"})
        handler.doRollover()
        self.assertEqual(self.files(), {"log": "", "log.1": "", "log.2": "0", "log.3": "1", "log.5": "3", "log.6": "6"})

    def test_numbers_of_two_figures(self):
        handler = self.make("a", 1, 12)
        tell(handler, *[str(number) for number in range(15)])
        expected = {"log." + str(number): str(14 - number) + "\n" for number in range(1, 13)}
        self.assertEqual(self.files(), {"log": "14\n", **expected})

    def test_files_whose_names_begin_alike_stay(self):
        others = {"log.01": "a", "log.1.1": "b", "log.x": "c", "log1": "d", "log.": "e", "log.0": "f", "lo": "g", "log.4": "h", "xlog.1": "i"}
        for name, text in others.items():
            self.yard.put_file(name, text)
        handler = self.make("a", 1, 3)
        tell(handler, "1", "2", "3", "4", "5")
        self.assertEqual(self.files(), {**others, "log": "5\n", "log.1": "4\n", "log.2": "3\n", "log.3": "2\n"})

    def test_a_renamed_file_keeps_its_time(self):
        handler = self.make("a", 1, 2)
        tell(handler, "a")
        self.yard.advance(5)
        tell(handler, "b")
        self.yard.advance(5)
        tell(handler, "c")
        times = [self.yard.file_store.time_of(name) for name in ("log.2", "log.1", "log")]
        self.assertEqual(times, [0, 5, 10])

    def test_two_handlers_know_the_file_by_its_name(self):
        one, two = self.make("a", 4, 1), FileHandler(self.yard, "log")
        tell(one, "a")
        tell(two, "b")
        tell(one, "c")
        tell(two, "d")
        self.assertEqual(self.files(), {"log": "c\nd\n", "log.1": "a\nb\n"})


class RollingOver(WithYard):
    def test_by_hand(self):
        handler = self.make("a", 0, 2)
        for message in ("a", "b", "c"):
            tell(handler, message)
            self.assertIsNone(handler.doRollover())
        self.assertEqual(self.files(), {"log": "", "log.1": "c\n", "log.2": "b\n"})

    def test_by_hand_with_delay(self):
        handler = self.make("a", 100, 2, True)
        handler.doRollover()
        self.assertEqual(self.files(), {})
        tell(handler, "a")
        handler.doRollover()
        self.assertEqual(self.files(), {"log.1": "a\n"})
        tell(handler, "b")
        self.assertEqual(self.files(), {"log": "b\n", "log.1": "a\n"})

    def test_delay_on_the_way(self):
        handler = self.make("a", 4, 1, True)
        tell(handler, "a", "bc")
        self.assertEqual(self.files(), {"log": "bc\n", "log.1": "a\n"})

    def test_the_mode_w_makes_the_file_anew(self):
        for delay in (False, True):
            self.setUp()
            handler = self.make("w", 0, 0, delay)
            tell(handler, "a")
            handler.doRollover()
            self.assertEqual(self.files(), {"log": "a\n" if delay else ""})
            tell(handler, "b")
            self.assertEqual(self.files(), {"log": "b\n"})

    def test_the_mode_a_goes_on_without_backups(self):
        handler = self.make("a", 0, 0)
        tell(handler, "a")
        handler.doRollover()
        tell(handler, "b")
        self.assertEqual(self.files(), {"log": "a\nb\n"})

    def test_the_handler_is_not_closed_by_it(self):
        handler = self.make("w", 0, 1)
        handler.setName("h")
        handler.doRollover()
        self.assertIs(self.yard.getHandlerByName("h"), handler)
        tell(handler, "a")
        self.yard.shutdown()
        self.assertIsNone(self.yard.getHandlerByName("h"))

    def test_asking_opens_the_file(self):
        for mode, before, behind in (("a", None, ""), ("a", "x", "x"), ("w", None, ""), ("w", "x", "")):
            self.setUp()
            if before is not None:
                self.yard.put_file("log", before)
            handler = self.make(mode, 0, 1, True)
            handler.shouldRollover(self.record("{", (1,)))
            self.assertEqual(self.files(), {"log": behind})
            self.yard.put_file("log", "y")
            handler.shouldRollover(self.record("{", (1,)))
            self.assertEqual(self.files(), {"log": "y"})

    def test_asking_raises_what_formatting_raises_only_if_all_else_holds(self):
        bad = self.record("{", (1,))
        for size, text, raises in ((10, "x", True), (10 ** 9, "x", True), (10, "", False), (10, None, False), (0, "x", False), (-1, "x", False)):
            self.setUp()
            handler = self.make("a", size, 1)
            self.yard.remove_file("log")
            if text is not None:
                self.yard.put_file("log", text)
            before = self.files()
            if raises:
                with self.assertRaises(BadMessage):
                    handler.shouldRollover(bad)
                handler.setFormatter(Formatter("{k}"))
                with self.assertRaises(BadField):
                    handler.shouldRollover(bad)
            else:
                self.assertIs(handler.shouldRollover(bad), False)
            self.assertEqual((self.files(), self.yard.failures()), (before, []))


class Failures(WithYard):
    def test_a_record_that_cannot_be_formatted(self):
        for size in (0, 1, 100):
            for text in (None, "", "x"):
                for delay in (False, True):
                    self.setUp()
                    if text is not None:
                        self.yard.put_file("log", text)
                    handler = self.make("a", size, 2, delay)
                    self.assertIs(fail_at(handler), True)
                    self.assertEqual((self.files(), self.yard.failures()), ({"log": text or ""}, [("bad", "message")]))
                    handler.setFormatter(Formatter("{k}"))
                    tell(handler, "m")
                    self.assertEqual((self.files(), self.yard.failures()[1:]), ({"log": text or ""}, [("a", "field")]))

    def test_the_mode_w_makes_the_file_anew_all_the_same(self):
        self.yard.put_file("log", "x")
        handler = self.make("w", 0, 1, True)
        fail_at(handler)
        self.assertEqual(self.files(), {"log": ""})


class Closing(WithYard):
    def test_the_mode_a(self):
        handler = self.make("a", 6, 1)
        tell(handler, "a")
        handler.close()
        self.assertEqual(self.files(), {"log": "a\n"})
        tell(handler, "b", "c", "d")
        self.assertEqual(self.files(), {"log": "c\nd\n", "log.1": "a\nb\n"})

    def test_the_mode_w_emits_again_into_a_new_file(self):
        for delay in (False, True):
            self.setUp()
            handler = self.make("w", 0, 1, delay)
            tell(handler, "a", "b")
            handler.close()
            self.assertEqual(self.files(), {"log": "a\nb\n"})
            tell(handler, "c", "d")
            self.assertEqual(self.files(), {"log": "c\nd\n"})
            handler.close()
            fail_at(handler)
            self.assertEqual((self.files(), self.yard.failures()), ({"log": ""}, [("bad", "message")]))

    def test_rolling_over_behind_it(self):
        for mode in ("a", "w"):
            self.setUp()
            handler = self.make(mode, 0, 1)
            tell(handler, "a")
            handler.close()
            handler.doRollover()
            self.assertEqual(self.files(), {"log": "", "log.1": "a\n"})
            tell(handler, "b")
            self.assertEqual(self.files(), {"log": "b\n", "log.1": "a\n"})


class Namers(WithYard):
    def test_set_changed_and_taken_away(self):
        handler = self.make("a", 1, 3)
        self.assertIsNone(handler.setNamer(lambda name: "old/" + name))
        tell(handler, "a", "b", "c")
        self.assertEqual(self.files(), {"log": "c\n", "old/log.1": "b\n", "old/log.2": "a\n"})
        handler.setNamer(function=lambda name: name[::-1])
        tell(handler, "d", "e")
        self.assertEqual(self.files(), {"log": "e\n", "1.gol": "d\n", "2.gol": "c\n", "old/log.1": "b\n", "old/log.2": "a\n"})
        handler.setNamer(None)
        tell(handler, "f")
        self.assertEqual(self.files()["log.1"], "e\n")

    def test_names_that_change_their_order(self):
        names = {"log.1": "3", "log.2": "1", "log.3": "2", "log.4": "log.1"}
        handler = self.make("a", 1, 4)
        handler.setNamer(lambda name: names[name])
        tell(handler, *"abcdef")
        self.assertEqual(self.files(), {"log": "f\n", "3": "e\n", "1": "d\n", "2": "c\n", "log.1": "b\n"})

    def test_the_files_without_it_stay(self):
        self.yard.put_file("log.1", "x")
        handler = self.make("a", 1, 2)
        handler.setNamer(lambda name: name + ".gz")
        tell(handler, "a", "b", "c")
        self.assertEqual(self.files(), {"log": "c\n", "log.1": "x", "log.1.gz": "b\n", "log.2.gz": "a\n"})


class Model:
    """What the document says of a handler, in few words: files is a dict."""

    def __init__(self, mode, size, count, delay):
        self.mode = "a" if size > 0 else mode
        self.size, self.count, self.delay = size, count, delay
        self.files, self.opened = {}, False
        if not delay:
            self.start()

    def start(self):
        if self.mode == "w" or "log" not in self.files:
            self.files["log"] = ""
        self.opened = True

    def roll(self):
        self.opened = False
        names = ["log"] + ["log." + str(number) for number in range(1, self.count + 1)]
        for at in range(self.count, 0, -1):
            if names[at - 1] in self.files:
                self.files[names[at]] = self.files.pop(names[at - 1])
        if not self.delay:
            self.start()

    def tell(self, message):
        if not self.opened:
            self.start()
        there = self.files.get("log", "")
        if self.size > 0 and there and len(there) + len(message) + 1 >= self.size:
            self.roll()
        if not self.opened:
            self.start()
        self.files["log"] = self.files.get("log", "") + message + "\n"


class Runs(unittest.TestCase):
    def test_many_runs_against_the_model(self):
        dice = random.Random(25)
        for _ in range(400):
            told = (dice.choice("aw"), dice.choice((-1, 0, 1, 5, 8, 20)), dice.randrange(4), dice.random() < 0.5)
            yard, model = Yard(), Model(*told)
            handler = RotatingFileHandler(yard, "log", *told)
            for _ in range(30):
                self.step(dice, yard, handler, model)
                self.assertEqual(yard.files(), model.files, told)

    def step(self, dice, yard, handler, model):
        word = dice.choice(("tell",) * 6 + ("roll", "close", "put", "remove"))
        name = dice.choice(("log", "log.1", "log.2"))
        if word == "tell":
            message = "x" * dice.randrange(7)
            tell(handler, message)
            model.tell(message)
        elif word == "roll":
            handler.doRollover()
            model.roll()
        elif word == "close":
            handler.close()
            model.opened = False
        elif word == "put":
            yard.put_file(name, "yy")
            model.files[name] = "yy"
        else:
            yard.remove_file(name)
            model.files.pop(name, None)
