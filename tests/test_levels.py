"""[7]: levels, and the tables of their names."""

import unittest

from recordyard import levels
from recordyard.errors import BadLevel
from recordyard.levels import LevelTable
from tests.helpers import objects

FIRST = {
    "CRITICAL": 50, "FATAL": 50, "ERROR": 40, "WARNING": 30, "WARN": 30, "INFO": 20, "DEBUG": 10, "NOTSET": 0,
}


class Constants(unittest.TestCase):
    def test_the_six_constants(self):
        told = [levels.CRITICAL, levels.ERROR, levels.WARNING, levels.INFO, levels.DEBUG, levels.NOTSET]
        self.assertEqual(told, [50, 40, 30, 20, 10, 0])
        self.assertEqual({type(level) for level in told}, {int})


class Tables(unittest.TestCase):
    def test_first_names(self):
        table = LevelTable()
        self.assertEqual(table.level_names(), FIRST)
        told = [table.level_name(level) for level in (0, 10, 20, 30, 40, 50)]
        self.assertEqual(told, ["NOTSET", "DEBUG", "INFO", "WARNING", "ERROR", "CRITICAL"])

    def test_numbers_without_a_name(self):
        table = LevelTable()
        for level in (1, 9, 11, 51, -1, -10, 10 ** 18, -10 ** 18):
            self.assertEqual(table.level_name(level), "Level " + str(level))

    def test_a_new_name_for_a_new_number(self):
        table = LevelTable()
        table.add_level_name(level=25, name="NOTE")
        self.assertEqual(table.level_name(25), "NOTE")
        self.assertEqual(table.level_names(), {**FIRST, "NOTE": 25})

    def test_a_new_name_for_an_old_number_leaves_the_old_name(self):
        table = LevelTable()
        table.add_level_name(20, "TOLD")
        self.assertEqual(table.level_name(20), "TOLD")
        self.assertEqual(table.level_names(), {**FIRST, "TOLD": 20})

    def test_an_old_name_for_a_new_number_leaves_the_old_number_its_name(self):
        table = LevelTable()
        table.add_level_name(25, "INFO")
        self.assertEqual(table.level_names(), {**FIRST, "INFO": 25})
        self.assertEqual((table.level_name(20), table.level_name(25)), ("INFO", "INFO"))

    def test_an_empty_name(self):
        table = LevelTable()
        table.add_level_name(5, "")
        self.assertEqual(table.level_name(5), "")
        self.assertEqual(table.number(""), 5)

    def test_tables_share_nothing(self):
        one = LevelTable()
        one.add_level_name(20, "TOLD")
        one.level_names().clear()
        self.assertEqual(LevelTable().level_names(), FIRST)
        self.assertEqual(LevelTable().level_name(20), "INFO")
        self.assertEqual(one.level_names(), {**FIRST, "TOLD": 20})


class PassedLevels(unittest.TestCase):
    def test_integers_stand_for_themselves(self):
        for level in (0, 1, -7, 50, 10 ** 18):
            self.assertEqual(LevelTable().number(level), level)

    def test_names_stand_for_their_numbers(self):
        table = LevelTable()
        table.add_level_name(-3, "LOW")
        for name, number in {**FIRST, "LOW": -3}.items():
            self.assertEqual(table.number(name), number)

    def test_all_other_objects_are_refused(self):
        wrong = [thing for thing in objects() if type(thing) is not int]
        for level in wrong + ["info", "INFO ", "Level 20", "20", "Level 7"]:
            with self.assertRaises(BadLevel) as caught:
                LevelTable().number(level)
            self.assertIs(caught.exception.level, level)
