"""[29]: the shutdown of a yard."""

import unittest

from recordyard.files import FileHandler
from recordyard.handlers import NullHandler, StreamHandler
from recordyard.rotating import RotatingFileHandler
from recordyard.yards import Yard
from tests.helpers import one_of_each


class Shutdown(unittest.TestCase):
    def setUp(self):
        self.yard = Yard()

    def tell(self, handler, message):
        self.assertIs(handler.handle(self.yard.make_record("a", 20, message)), True)

    def test_of_a_yard_without_handlers(self):
        self.assertIsNone(self.yard.shutdown())
        self.assertIsNone(self.yard.shutdown())

    def test_all_handlers_are_closed(self):
        handlers = one_of_each(self.yard)
        for number, handler in enumerate(handlers):
            handler.setName(str(number))
        self.yard.shutdown()
        self.assertEqual(self.yard.getHandlerNames(), [])
        self.assertEqual([handler.name for handler in handlers], [str(number) for number in range(len(handlers))])

    def test_those_that_hang_on_no_logger_too(self):
        loose, hung = FileHandler(self.yard, "loose", "w"), FileHandler(self.yard, "hung", "w")
        self.yard.root.addHandler(hung)
        self.yard.shutdown()
        self.tell(loose, "m")
        self.yard.root.error("m")
        self.assertEqual(self.yard.files(), {"hung": "", "loose": ""})
        self.assertEqual((self.yard.root.handlers, self.yard.text("stderr")), ([hung], ""))

    def test_those_that_were_closed_already_are_not_closed_again(self):
        first, second = StreamHandler(self.yard), NullHandler(self.yard)
        first.setName("x")
        first.close()
        second.setName("y")
        first.setName("x")
        self.yard.shutdown()
        # The name was given behind close(), so only another close() would take it away.
        self.assertEqual(self.yard.getHandlerNames(), ["x"])
        first.close()
        self.assertEqual(self.yard.getHandlerNames(), [])

    def test_called_twice(self):
        handler = RotatingFileHandler(self.yard, "log", "w")
        handler.setName("x")
        self.yard.shutdown()
        self.tell(handler, "m")
        handler.setName("x")
        self.yard.shutdown()
        self.tell(handler, "n")
        self.assertEqual((self.yard.files(), self.yard.getHandlerNames()), ({"log": "m\nn\n"}, ["x"]))

    def test_handlers_made_later_are_closed_by_the_next_one(self):
        self.yard.shutdown()
        handler = FileHandler(self.yard, "log", "w")
        self.tell(handler, "m")
        self.yard.shutdown()
        self.tell(handler, "n")
        self.assertEqual(self.yard.files(), {"log": "m\n"})

    def test_handlers_are_used_further(self):
        handlers = [StreamHandler(self.yard, "out"), FileHandler(self.yard, "a"), FileHandler(self.yard, "w", "w")]
        for handler in handlers:
            self.yard.root.addHandler(handler)
        self.yard.root.error("m")
        self.yard.shutdown()
        self.yard.root.error("n")
        self.assertEqual((self.yard.text("out"), self.yard.files()), ("m\nn\n", {"a": "m\nn\n", "w": "m\n"}))

    def test_loggers_records_and_the_clock_go_on(self):
        self.yard.shutdown()
        self.yard.advance(5)
        self.yard.getLogger("a").error("m")
        self.assertEqual((self.yard.now(), self.yard.loggers(), self.yard.text("stderr")), (5, ["a"], "m\n"))
