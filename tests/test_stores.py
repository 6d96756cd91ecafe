"""[6]: the texts of streams and files, and their times."""

import unittest

from recordyard.stores import Store
from recordyard.times import Clock


class Stores(unittest.TestCase):
    def setUp(self):
        self.clock = Clock(10)
        self.store = Store(self.clock)

    def test_texts_grow_at_their_ends(self):
        for text in ("a", "", "bc"):
            self.store.write("x", text)
        self.assertEqual((self.store.text("x"), self.store.length("x"), self.store.text("x")), ("abc", 3, "abc"))
        self.store.write("x", "d")
        self.assertEqual((self.store.text("x"), self.store.length("x"), self.store.contents()), ("abcd", 4, {"x": "abcd"}))

    def test_a_text_that_is_not_there(self):
        self.assertEqual((self.store.has("x"), self.store.text("x"), self.store.length("x")), (False, "", 0))
        self.store.write("x", "")
        self.assertEqual((self.store.has("x"), self.store.text("x"), self.store.length("x")), (True, "", 0))

    def test_putting_takes_the_place(self):
        self.store.write("x", "abc")
        self.store.put("x", "d")
        self.assertEqual((self.store.text("x"), self.store.length("x")), ("d", 1))

    def test_times(self):
        told = []
        for change in (
            lambda: self.store.put("x", "a"), lambda: self.store.write("x", "b"), lambda: self.store.text("x"),
            lambda: self.store.write("x", ""), lambda: self.store.put("x", "c"), lambda: self.store.put("y", "c"),
        ):
            self.clock.advance(10)
            change()
            told.append(self.store.time_of("x"))
        self.assertEqual(told, [20, 30, 30, 50, 60, 60])
        self.store.write("z", "")
        self.assertEqual((self.store.time_of("y"), self.store.time_of("z")), (70, 70))

    def test_renaming_keeps_the_time(self):
        self.store.put("x", "a")
        self.store.put("z", "c")
        self.clock.advance(5)
        self.store.put("y", "b")
        self.store.rename("x", "y")
        self.assertEqual((self.store.contents(), self.store.time_of("y")), ({"y": "a", "z": "c"}, 10))
        self.store.rename("x", "y")
        self.store.rename("none", "z")
        self.assertEqual(self.store.contents(), {"y": "a", "z": "c"})

    def test_taking_away(self):
        self.store.put("x", "a")
        self.store.take_away("x")
        self.store.take_away("x")
        self.assertEqual((self.store.contents(), self.store.all_names()), ({}, []))
