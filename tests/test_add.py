import datetime
import random
import unittest

from tests.helper import ADD, EPOCH, FIRST_DAY, HUGE, LAST_DAY, ask, ask_one, day, in_lines


def added(date, months, days=0, how=0):
    return ask_one(ADD, day(*date), months, days, how)


def expected(n, months, days, how):
    """The document's words, by Python's own dates."""
    start = EPOCH + datetime.timedelta(days=n)
    y, m = divmod(start.year * 12 + start.month - 1 + months, 12)
    if not 1 <= y <= 9999:
        return [-4]
    lengths = (31, 29 if y % 4 == 0 and (y % 100 or y % 400 == 0) else 28, 31, 30, 31, 30, 31, 31, 30, 31, 30, 31)
    there = day(y, m + 1, min(start.day, lengths[m]))
    if start.day > lengths[m]:
        if how == 2:
            return [-4]
        there += how
    return [0, there + days] if FIRST_DAY <= there + days <= LAST_DAY else [-4]


class TestMonths(unittest.TestCase):
    def test_ordinary_months(self):
        self.assertEqual(added((2024, 5, 15), 0), [0, day(2024, 5, 15)])
        self.assertEqual(added((2024, 5, 15), 1), [0, day(2024, 6, 15)])
        self.assertEqual(added((2024, 5, 15), -1), [0, day(2024, 4, 15)])
        self.assertEqual(added((2024, 5, 15), 12), [0, day(2025, 5, 15)])
        self.assertEqual(added((2024, 5, 15), -12), [0, day(2023, 5, 15)])

    def test_over_a_years_end(self):
        self.assertEqual(added((2024, 12, 31), 1), [0, day(2025, 1, 31)])
        self.assertEqual(added((2024, 1, 31), -1), [0, day(2023, 12, 31)])
        self.assertEqual(added((2024, 5, 15), -5), [0, day(2023, 12, 15)])
        self.assertEqual(added((2024, 5, 15), 8), [0, day(2025, 1, 15)])
        self.assertEqual(added((1969, 12, 31), 2401), [0, day(2170, 1, 31)])

    def test_bounds(self):
        # So many months lead out of the calendar from every day of it, but they may be told.
        for months in (120000, -120000):
            for n in (FIRST_DAY, 0, LAST_DAY):
                self.assertEqual(ask_one(ADD, n, months, 0, 0), [-4])
        for months in (120001, -120001, HUGE, -HUGE):
            for how in (0, 1, 2):
                self.assertEqual(ask_one(ADD, 0, months, 0, how), [-1])

    def test_first_and_last_month_of_the_calendar(self):
        for how in (0, 1, 2):
            self.assertEqual(added((1, 1, 1), 119987, 0, how), [0, day(9999, 12, 1)])
            self.assertEqual(added((9999, 12, 31), -119987, 0, how), [0, day(1, 1, 31)])
            self.assertEqual(added((1, 1, 1), 119988, 0, how), [-4])
            self.assertEqual(added((9999, 12, 31), -119988, 0, how), [-4])
            self.assertEqual(added((9999, 12, 1), 1, 0, how), [-4])
            self.assertEqual(added((1, 1, 31), -1, 0, how), [-4])

    def test_a_month_outside_though_the_days_lead_back(self):
        self.assertEqual(added((9999, 12, 1), 1, -31), [-4])
        self.assertEqual(added((1, 1, 31), -1, 31), [-4])
        self.assertEqual(added((9999, 12, 31), 120000, -4000000), [-4])


class TestHow(unittest.TestCase):
    def test_the_month_has_the_day(self):
        for how in (0, 1, 2):
            self.assertEqual(added((2024, 1, 31), 2, 0, how), [0, day(2024, 3, 31)])
            self.assertEqual(added((2024, 1, 30), 3, 0, how), [0, day(2024, 4, 30)])
            self.assertEqual(added((2024, 1, 29), 1, 0, how), [0, day(2024, 2, 29)])
            self.assertEqual(added((2023, 1, 28), 1, 0, how), [0, day(2023, 2, 28)])

    def test_day_31_in_a_month_of_30(self):
        for start, months, m in (((2024, 3, 31), 1, 4), ((2024, 5, 31), 1, 6), ((2024, 10, 31), -1, 9),
                                 ((2024, 1, 31), 10, 11)):
            with self.subTest(m=m):
                self.assertEqual(added(start, months, 0, 0), [0, day(2024, m, 30)])
                self.assertEqual(added(start, months, 0, 1), [0, day(2024, m + 1, 1)])
                self.assertEqual(added(start, months, 0, 2), [-4])

    def test_month_2(self):
        for y, length in ((2023, 28), (2024, 29), (2100, 28), (2000, 29)):
            for d in range(length + 1, 32):
                for m, months in ((1, 1), (12, -10)):
                    with self.subTest(y=y, m=m, d=d):
                        self.assertEqual(added((y, m, d), months, 0, 0), [0, day(y, 2, length)])
                        self.assertEqual(added((y, m, d), months, 0, 1), [0, day(y, 3, 1)])
                        self.assertEqual(added((y, m, d), months, 0, 2), [-4])

    def test_a_year_from_day_29_of_month_2(self):
        self.assertEqual(added((2024, 2, 29), 12, 0, 0), [0, day(2025, 2, 28)])
        self.assertEqual(added((2024, 2, 29), 12, 0, 1), [0, day(2025, 3, 1)])
        self.assertEqual(added((2024, 2, 29), 12, 0, 2), [-4])
        for how in (0, 1, 2):
            self.assertEqual(added((2024, 2, 29), 48, 0, how), [0, day(2028, 2, 29)])

    def test_other_hows(self):
        for how in (-1, 3, HUGE, -HUGE):
            self.assertEqual(ask_one(ADD, 0, 0, 0, how), [-1])
            self.assertEqual(added((2024, 1, 31), 1, 0, how), [-1])

    def test_days_come_behind_the_months(self):
        self.assertEqual(added((2024, 1, 31), 1, 1, 0), [0, day(2024, 3, 1)])
        self.assertEqual(added((2024, 1, 31), 1, 1, 1), [0, day(2024, 3, 2)])
        self.assertEqual(added((2024, 1, 30), 1, 1, 0), [0, day(2024, 3, 1)])
        self.assertEqual(added((2024, 1, 31), 1, -1, 1), [0, day(2024, 2, 29)])
        # There is none by how 2, though the days would lead to one.
        self.assertEqual(added((2024, 1, 31), 1, -5, 2), [-4])


class TestDays(unittest.TestCase):
    def test_ordinary_days(self):
        self.assertEqual(ask((ADD, 0, 0, 1, 0), (ADD, 0, 0, -1, 1), (ADD, 5, 0, 1000, 2)),
                         [[0, 1], [0, -1], [0, 1005]])
        self.assertEqual(added((2024, 1, 31), -2, 10), [0, day(2023, 12, 10)])

    def test_bounds(self):
        # So many days, too, lead out of the calendar from every day of it.
        for days in (4000000, -4000000):
            for n in (FIRST_DAY, 0, LAST_DAY):
                self.assertEqual(ask_one(ADD, n, 0, days, 0), [-4])
        for days in (4000001, -4000001, HUGE, -HUGE):
            self.assertEqual(ask_one(ADD, 0, 0, days, 0), [-1])

    def test_both_ends_of_the_calendar(self):
        width = LAST_DAY - FIRST_DAY
        for how in (0, 1, 2):
            self.assertEqual(ask((ADD, FIRST_DAY, 0, width, how), (ADD, FIRST_DAY, 0, width + 1, how),
                                 (ADD, LAST_DAY, 0, -width, how), (ADD, LAST_DAY, 0, -width - 1, how),
                                 (ADD, FIRST_DAY, 0, -1, how), (ADD, LAST_DAY, 0, 1, how)),
                             [[0, LAST_DAY], [-4], [0, FIRST_DAY], [-4], [-4], [-4]])
        self.assertEqual(added((9999, 11, 30), 1, 1), [0, LAST_DAY])
        self.assertEqual(added((9999, 11, 30), 1, 2), [-4])
        self.assertEqual(added((1, 2, 2), -1, -1), [0, FIRST_DAY])
        self.assertEqual(added((1, 2, 2), -1, -2), [-4])


class TestRefusals(unittest.TestCase):
    def test_no_day(self):
        for n in (FIRST_DAY - 1, LAST_DAY + 1, HUGE, -HUGE):
            self.assertEqual(ask_one(ADD, n, 0, 0, 0), [-1])
        self.assertEqual(ask_one(ADD, LAST_DAY + 1, 0, -1, 0), [-1])
        self.assertEqual(ask_one(ADD, FIRST_DAY - 1, 1, 0, 0), [-1])

    def test_wrong_numbers_ahead_of_no_day_there(self):
        self.assertEqual(ask((ADD, LAST_DAY, 1, 0, 3), (ADD, LAST_DAY, 1, 4000001, 0), (ADD, LAST_DAY, 120001, 0, 0),
                             (ADD, LAST_DAY + 1, 1, 0, 0)), [[-1]] * 4)


class TestByPythonsDates(unittest.TestCase):
    def test_many(self):
        source = random.Random(8)
        spans = []
        for _ in range(4000):
            n = source.choice((source.randint(FIRST_DAY, LAST_DAY), source.randint(0, 3000),
                               FIRST_DAY + source.randint(0, 70), LAST_DAY - source.randint(0, 70)))
            months = source.choice((source.randint(-120000, 120000), source.randint(-30, 30)))
            days = source.choice((0, source.randint(-60, 60), source.randint(-4000000, 4000000)))
            spans.append((n, months, days, source.randint(0, 2)))
        self.assertEqual(in_lines([(ADD, *span) for span in spans]), [expected(*span) for span in spans])

    def test_each_day_of_leap_year_and_common_year(self):
        spans = [(n, months, 0, how) for n in range(day(2023, 1, 1), day(2025, 1, 1))
                 for months in (-13, -1, 1, 2) for how in (0, 1, 2)]
        self.assertEqual(in_lines([(ADD, *span) for span in spans]), [expected(*span) for span in spans])
