import datetime
import unittest

from tests.helper import DATE, DAY, EPOCH, FIRST_DAY, HUGE, LAST_DAY, ask, ask_one, in_lines


def expected(n):
    day = EPOCH + datetime.timedelta(days=n)
    week = day.isocalendar()
    return [0, day.year, day.month, day.day, day.weekday(), week[0], week[1]]


class TestDate(unittest.TestCase):
    def test_ordinary_days(self):
        self.assertEqual(ask_one(DATE, 0), [0, 1970, 1, 1, 3, 1970, 1])
        self.assertEqual(ask_one(DATE, -1), [0, 1969, 12, 31, 2, 1970, 1])
        self.assertEqual(ask_one(DATE, 11016), [0, 2000, 2, 29, 1, 2000, 9])

    def test_both_ends_and_one_beyond(self):
        self.assertEqual(ask_one(DATE, FIRST_DAY), [0, 1, 1, 1, 0, 1, 1])
        self.assertEqual(ask_one(DATE, LAST_DAY), [0, 9999, 12, 31, 4, 9999, 52])
        self.assertEqual(ask_one(DATE, FIRST_DAY - 1), [-1])
        self.assertEqual(ask_one(DATE, LAST_DAY + 1), [-1])
        self.assertEqual(ask_one(DATE, HUGE), [-1])
        self.assertEqual(ask_one(DATE, -HUGE), [-1])

    def test_weekdays_go_round(self):
        found = ask(*[(DATE, n) for n in range(-10, 11)])
        self.assertEqual([answer[4] for answer in found], [(n + 3) % 7 for n in range(-10, 11)])

    def test_weeks_around_a_year(self):
        for y, m, d, week in ((2020, 12, 31, [2020, 53]), (2021, 1, 3, [2020, 53]), (2021, 1, 4, [2021, 1]),
                              (2018, 12, 30, [2018, 52]), (2018, 12, 31, [2019, 1]), (2017, 1, 1, [2016, 52]),
                              (2016, 1, 3, [2015, 53]), (2024, 12, 29, [2024, 52]), (2024, 12, 30, [2025, 1])):
            with self.subTest(y=y, m=m, d=d):
                n = ask_one(DAY, y, m, d)[1]
                self.assertEqual(ask_one(DATE, n)[5:], week)

    def test_around_every_years_beginning(self):
        numbers = [n for y in range(1, 10000) for first in [(datetime.date(y, 1, 1) - EPOCH).days]
                   for n in range(max(first - 4, FIRST_DAY), first + 5)]
        self.assertEqual(in_lines([(DATE, n) for n in numbers]), [expected(n) for n in numbers])

    def test_each_day_of_some_years(self):
        for y in (1, 4, 1900, 2000, 2023, 2024, 9999):
            first = (datetime.date(y, 1, 1) - EPOCH).days
            length = (datetime.date(y, 12, 31) - EPOCH).days - first + 1
            numbers = range(first, first + length)
            with self.subTest(y=y):
                self.assertEqual(in_lines([(DATE, n) for n in numbers]), [expected(n) for n in numbers])


class TestThereAndBack(unittest.TestCase):
    """T1."""

    def test_from_a_number(self):
        numbers = list(range(FIRST_DAY, LAST_DAY + 1, 97)) + [LAST_DAY]
        dates = in_lines([(DATE, n) for n in numbers])
        back = in_lines([(DAY, *date[1:4]) for date in dates])
        self.assertEqual(back, [[0, n] for n in numbers])

    def test_from_a_date(self):
        dates = [(y, m, d) for y in (1, 100, 400, 1970, 2000, 2024, 2100, 9999)
                 for m in range(1, 13) for d in (1, 28, 29, 30, 31)]
        for date, answer in zip(dates, in_lines([(DAY, *date) for date in dates])):
            if answer != [-1]:
                with self.subTest(date=date):
                    self.assertEqual(ask_one(DATE, answer[1])[1:4], list(date))
