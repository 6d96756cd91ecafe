"""The clock's dates and times ([6], [11]), against Python's own."""

import datetime
import unittest

from recordyard.times import date_of, time_text

FIRST = datetime.date(1970, 1, 1)


class Dates(unittest.TestCase):
    def test_each_day_of_several_years(self):
        for year in (1600, 1899, 1900, 1967, 1968, 1969, 1970, 1971, 1972, 1999, 2000, 2001, 2023, 2024, 2100, 9998):
            day = datetime.date(year, 1, 1)
            for _ in range(367):
                self.assertEqual(date_of((day - FIRST).days), (day.year, day.month, day.day))
                day += datetime.timedelta(1)

    def test_days_all_over_the_calendar(self):
        for number in range(-719162, 2932896, 97):
            day = FIRST + datetime.timedelta(number)
            self.assertEqual(date_of(number), (day.year, day.month, day.day))

    def test_the_last_day(self):
        self.assertEqual(date_of(2932896), (9999, 12, 31))


class Texts(unittest.TestCase):
    def test_texts(self):
        for milliseconds, text in (
            (0, "1970-01-01 00:00:00,000"),
            (1, "1970-01-01 00:00:00,001"),
            (1000, "1970-01-01 00:00:01,000"),
            (3723045, "1970-01-01 01:02:03,045"),
            (86399999, "1970-01-01 23:59:59,999"),
            (86400000, "1970-01-02 00:00:00,000"),
            (951782399999, "2000-02-28 23:59:59,999"),
            (951782400000, "2000-02-29 00:00:00,000"),
            (253402300799999, "9999-12-31 23:59:59,999"),
        ):
            self.assertEqual(time_text(milliseconds), text)

    def test_times_all_over_the_calendar(self):
        start = datetime.datetime(1970, 1, 1)
        for milliseconds in range(0, 253402300799999, 253402300799999 // 3001):
            time = start + datetime.timedelta(milliseconds=milliseconds)
            text = time.isoformat(" ", "milliseconds").replace(".", ",")
            self.assertEqual(time_text(milliseconds), text)
