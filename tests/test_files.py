"""[24]: FileHandler."""

import unittest

from recordyard.errors import BadMode
from recordyard.files import FileHandler
from recordyard.formatters import Formatter
from recordyard.rotating import RotatingFileHandler
from recordyard.yards import Yard
from tests.helpers import objects


class WithYard(unittest.TestCase):
    def setUp(self):
        self.yard = Yard(1000)

    def tell(self, handler, *messages):
        for message in messages:
            self.assertIs(handler.handle(self.yard.make_record("a", 20, message)), True)

    def fail_at(self, handler):
        """Let a handler handle a record that cannot be formatted."""
        self.assertIs(handler.handle(self.yard.make_record("bad", 20, "{", (1,))), True)

    def log(self):
        """What stands in the file, or None if there is none."""
        return self.yard.files().get("log")


class Opening(WithYard):
    def test_when_it_is_made(self):
        for mode, before, behind in (("a", None, ""), ("a", "x", "x"), ("a", "", ""), ("w", None, ""), ("w", "x", ""), ("w", "", "")):
            yard = Yard()
            if before is not None:
                yard.put_file("log", before)
            handler = FileHandler(yard, "log", mode)
            self.assertEqual((handler.filename, yard.files()), ("log", {"log": behind}))
            handler.handle(yard.make_record("a", 20, "m"))
            self.assertEqual(yard.files(), {"log": behind + "m\n"})

    def test_with_delay_when_it_first_emits(self):
        for mode, before, behind in (("a", None, ""), ("a", "x", "x"), ("w", None, ""), ("w", "x", "")):
            self.setUp()
            if before is not None:
                self.yard.put_file("log", before)
            handler = FileHandler(self.yard, "log", mode, True)
            self.assertEqual(self.log(), before)
            handler.addFilter(lambda record: record.msg != "held back")
            handler.handle(self.yard.make_record("a", 20, "held back"))
            self.assertEqual(self.log(), before)
            self.tell(handler, "m", "n")
            self.assertEqual(self.log(), behind + "m\nn\n")

    def test_ahead_of_formatting(self):
        for mode, before, behind in (("a", None, ""), ("a", "x", "x"), ("w", None, ""), ("w", "x", "")):
            self.setUp()
            if before is not None:
                self.yard.put_file("log", before)
            handler = FileHandler(self.yard, "log", mode, True)
            self.fail_at(handler)
            self.assertEqual((self.log(), self.yard.failures()), (behind, [("bad", "message")]))
            self.tell(handler, "m")
            self.assertEqual(self.log(), behind + "m\n")

    def test_parameters(self):
        self.yard.put_file("log", "x")
        handler = FileHandler(delay=True, mode="w", filename="log", yard=self.yard)
        self.assertEqual(self.log(), "x")
        self.tell(handler, "m")
        self.assertEqual(self.log(), "m\n")
        FileHandler(self.yard, "log")
        self.assertEqual(self.log(), "m\n")

    def test_wrong_modes(self):
        handlers = len(self.yard.roster.handlers)
        for mode in [thing for thing in objects() if thing != "a"] + ["A", "W", "r", "aw", "wa", "a+", "x", "w ", "b"]:
            for delay in (False, True):
                with self.assertRaises(BadMode) as caught:
                    FileHandler(self.yard, "log", mode, delay)
                self.assertIs(caught.exception.mode, mode)
                for size in (0, 10):
                    with self.assertRaises(BadMode) as caught:
                        RotatingFileHandler(self.yard, "log", mode, size, 1, delay)
                    self.assertIs(caught.exception.mode, mode)
        self.assertEqual((self.yard.files(), len(self.yard.roster.handlers)), ({}, handlers))


class Writing(WithYard):
    def test_at_the_end_with_formatter_and_terminator(self):
        handler = FileHandler(self.yard, "log")
        handler.setFormatter(Formatter("{levelname} {message}"))
        self.tell(handler, "m")
        handler.setTerminator("|")
        self.tell(handler, "n", "")
        self.assertEqual(self.log(), "INFO m\nINFO n|INFO |")

    def test_a_file_that_is_taken_away_on_the_way(self):
        for mode in ("a", "w"):
            handler = FileHandler(self.yard, "log", mode)
            self.tell(handler, "m")
            self.yard.remove_file("log")
            self.fail_at(handler)
            self.assertIsNone(self.log())
            self.tell(handler, "n", "o")
            self.assertEqual(self.log(), "n\no\n")

    def test_a_file_that_is_put_anew_on_the_way(self):
        for mode in ("a", "w"):
            handler = FileHandler(self.yard, "log", mode)
            self.tell(handler, "m")
            self.yard.put_file("log", "x")
            self.tell(handler, "n")
            self.assertEqual(self.log(), "xn\n")

    def test_empty_texts_are_written_too(self):
        handler = FileHandler(self.yard, "log")
        handler.setTerminator("")
        self.yard.remove_file("log")
        self.tell(handler, "")
        self.assertEqual(self.log(), "")

    def test_two_handlers_on_one_file(self):
        one = FileHandler(self.yard, "log")
        self.tell(one, "a")
        two = FileHandler(self.yard, "log")
        self.tell(two, "b")
        self.tell(one, "c")
        three = FileHandler(self.yard, "log", "w")
        self.assertEqual(self.log(), "")
        self.tell(two, "d")
        self.tell(three, "e")
        self.tell(one, "f")
        self.assertEqual(self.log(), "d\ne\nf\n")

    def test_files_of_other_names_stay(self):
        self.yard.put_file("log.1", "x")
        self.tell(FileHandler(self.yard, "log", "w"), "m")
        self.assertEqual(self.yard.files(), {"log": "m\n", "log.1": "x"})


class Times(WithYard):
    def time(self):
        return self.yard.file_store.time_of("log")

    def test_of_a_file_that_is_opened(self):
        self.yard.put_file("log", "x")
        self.yard.advance(5)
        handler = FileHandler(self.yard, "log")
        self.assertEqual(self.time(), 1000)
        handler.setTerminator("")
        self.tell(handler, "")
        self.assertEqual(self.time(), 1005)
        self.yard.advance(5)
        self.fail_at(handler)
        self.assertEqual(self.time(), 1005)
        FileHandler(self.yard, "log", "w", True)
        self.assertEqual(self.time(), 1005)
        FileHandler(self.yard, "log", "w")
        self.assertEqual(self.time(), 1010)


class Closing(WithYard):
    def test_the_mode_a_opens_its_file_again(self):
        for delay in (False, True):
            self.setUp()
            handler = FileHandler(self.yard, "log", "a", delay)
            self.tell(handler, "m")
            self.assertIsNone(handler.close())
            self.assertEqual(self.log(), "m\n")
            self.tell(handler, "n")
            self.assertEqual(self.log(), "m\nn\n")
            handler.close()
            handler.close()
            self.yard.remove_file("log")
            self.fail_at(handler)
            self.assertEqual((self.log(), self.yard.failures()), ("", [("bad", "message")]))

    def test_the_mode_w_does_not_emit_any_more(self):
        for delay in (False, True):
            self.setUp()
            handler = FileHandler(self.yard, "log", "w", delay)
            self.tell(handler, "m")
            handler.close()
            self.tell(handler, "n")
            self.fail_at(handler)
            self.assertEqual((self.log(), self.yard.failures()), ("m\n", []))
            self.yard.remove_file("log")
            handler.close()
            self.tell(handler, "n")
            self.assertIsNone(self.log())

    def test_the_mode_w_closed_ahead_of_its_first_record(self):
        self.yard.put_file("log", "x")
        handler = FileHandler(self.yard, "log", "w", True)
        handler.close()
        self.tell(handler, "m")
        self.fail_at(handler)
        self.assertEqual((self.log(), self.yard.failures()), ("x", []))

    def test_handle_still_tells_what_came_through(self):
        handler = FileHandler(self.yard, "log", "w")
        handler.close()
        handler.addFilter(lambda record: record.name == "a")
        told = [handler.handle(self.yard.make_record(name, 20, "m")) for name in ("a", "b")]
        self.assertEqual(told, [True, False])

    def test_closing_does_not_open(self):
        FileHandler(self.yard, "log", "a", True).close()
        FileHandler(self.yard, "log", "w", True).close()
        self.assertIsNone(self.log())
