"""Points 7 and 12: dates as integers and as texts."""

import datetime
import unittest

from stylobate.values.days import (FIRST_DAY, LAST_DAY, date_of, date_text, day_of, is_day,
                                   month_length, read_date)
from stylobate.values.operations import unary

EPOCH = datetime.date(1970, 1, 1).toordinal()


def python_date(day):
    return datetime.date.fromordinal(day + EPOCH)


def interesting_days():
    """Every day of some years, and days around the ends of all years."""
    days = []
    for year in (1, 2, 3, 4, 100, 400, 1600, 1900, 1970, 1999, 2000, 2001, 2024, 2026, 2100, 9996, 9999):
        first = datetime.date(year, 1, 1).toordinal() - EPOCH
        length = 366 if year % 4 == 0 and (year % 100 != 0 or year % 400 == 0) else 365
        days.extend(range(first, first + length))
    for year in range(1, 10000):
        end = datetime.date(year, 12, 31).toordinal() - EPOCH
        days.extend([end - 306, end - 305, end - 304, end])
    return days


class Days(unittest.TestCase):
    def test_bounds(self):
        self.assertEqual((FIRST_DAY, LAST_DAY), (-719162, 2932896))
        self.assertEqual(date_of(FIRST_DAY), (1, 1, 1))
        self.assertEqual(date_of(LAST_DAY), (9999, 12, 31))
        self.assertEqual(day_of(1, 1, 1), FIRST_DAY)
        self.assertEqual(day_of(9999, 12, 31), LAST_DAY)
        self.assertEqual(day_of(1970, 1, 1), 0)
        for value in (FIRST_DAY, 0, LAST_DAY):
            self.assertIs(is_day(value), True)
        for value in (FIRST_DAY - 1, LAST_DAY + 1, 10 ** 30, True, False, None, "", "0"):
            self.assertIs(is_day(value), False)

    def test_as_the_calendar_of_python(self):
        for day in interesting_days():
            date = python_date(day)
            told = (date.year, date.month, date.day)
            self.assertEqual(date_of(day), told)
            self.assertEqual(day_of(*told), day)
            self.assertEqual(date_text(day), date.isoformat())
            self.assertEqual(read_date(date.isoformat()), day)

    def test_parts_of_dates(self):
        for day in interesting_days()[::7] + [FIRST_DAY, LAST_DAY]:
            date = python_date(day)
            told = [unary(name, day) for name in ("year", "month", "day", "weekday")]
            self.assertEqual(told, [date.year, date.month, date.day, date.isoweekday()])
            self.assertEqual(unary("month start", day), date.replace(day=1).toordinal() - EPOCH)
            self.assertEqual(unary("year start", day), date.replace(month=1, day=1).toordinal() - EPOCH)
            self.assertEqual(unary("week start", day), day - date.weekday())

    def test_no_such_dates(self):
        wrong = [(0, 1, 1), (10000, 1, 1), (-1, 1, 1), (2000, 0, 1), (2000, 13, 1), (2000, 1, 0),
                 (2000, 1, 32), (2000, 4, 31), (2000, 2, 30), (1900, 2, 29), (100, 2, 29),
                 (2001, 2, 29), (2000, -1, 1), (2000, 1, -1), (10 ** 20, 1, 1)]
        for told in wrong:
            self.assertIsNone(day_of(*told), told)
        for told in ((2000, 2, 29), (400, 2, 29), (1904, 2, 29), (2000, 12, 31)):
            self.assertEqual(date_of(day_of(*told)), told)

    def test_month_length(self):
        self.assertEqual([month_length(2001, m) for m in range(1, 13)],
                         [31, 28, 31, 30, 31, 30, 31, 31, 30, 31, 30, 31])
        self.assertEqual([month_length(y, 2) for y in (100, 400, 1900, 2000, 2004, 2023)],
                         [28, 29, 28, 29, 29, 28])


class Texts(unittest.TestCase):
    def test_changed_by_one_character(self):
        """Each text that differs from a date in one character is a date only if Python says so."""
        for text in ("2026-01-31", "0001-01-01", "2000-02-29", "9999-12-31"):
            changed = []
            for at in range(len(text)):
                changed.append(text[:at] + text[at + 1:])
                changed.extend(text[:at] + sign + text[at + 1:] for sign in "0123456789- a/+.")
            for at in range(len(text) + 1):
                changed.extend(text[:at] + sign + text[at:] for sign in "0123456789- a+")
            for other in changed:
                self.assertEqual(read_date(other), self.by_python(other), other)

    def by_python(self, text):
        if len(text) != 10 or [at for at, sign in enumerate(text) if sign not in "0123456789"] != [4, 7]:
            return None
        if text[4] != "-" or text[7] != "-":
            return None
        try:
            date = datetime.date(int(text[:4]), int(text[5:7]), int(text[8:]))
        except ValueError:
            return None
        return date.toordinal() - EPOCH

    def test_no_dates(self):
        for text in ("", "-", "2026", "2026-1-1", "2026-01-1", "02026-01-01", "2026-01-01 ", " 2026-01-01",
                     "2026-13-01", "2026-00-10", "2026-02-29", "0000-01-01", "2026_01_01", "2026-01-00",
                     "20260101", "2026--1-01", "+026-01-01", "-026-01-01"):
            self.assertIsNone(read_date(text), text)


if __name__ == "__main__":
    unittest.main()
