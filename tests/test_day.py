import datetime
import unittest

from tests.helper import DAY, EPOCH, FIRST_DAY, HUGE, LAST_DAY, ask, ask_one


class TestDay(unittest.TestCase):
    def test_ordinary_days(self):
        self.assertEqual(ask_one(DAY, 1970, 1, 1), [0, 0])
        self.assertEqual(ask_one(DAY, 1970, 1, 2), [0, 1])
        self.assertEqual(ask_one(DAY, 1969, 12, 31), [0, -1])
        self.assertEqual(ask_one(DAY, 2000, 3, 1), [0, 11017])
        self.assertEqual(ask_one(DAY, 2026, 11, 18), [0, 20775])

    def test_first_and_last_day_and_one_beyond(self):
        self.assertEqual(ask_one(DAY, 1, 1, 1), [0, FIRST_DAY])
        self.assertEqual(ask_one(DAY, 9999, 12, 31), [0, LAST_DAY])
        self.assertEqual(ask_one(DAY, 0, 12, 31), [-1])
        self.assertEqual(ask_one(DAY, 10000, 1, 1), [-1])

    def test_month_2(self):
        for y, length in ((2023, 28), (2024, 29), (1900, 28), (2100, 28), (2000, 29), (1600, 29),
                          (1, 28), (4, 29), (100, 28), (400, 29), (9996, 29), (9999, 28)):
            last = (datetime.date(y, 3, 1) - EPOCH).days - 1
            with self.subTest(y=y):
                self.assertEqual(ask_one(DAY, y, 2, length), [0, last])
                self.assertEqual(ask_one(DAY, y, 2, length + 1), [-1])

    def test_month_lengths(self):
        for y, february in ((2023, 28), (2024, 29)):
            lengths = (31, february, 31, 30, 31, 30, 31, 31, 30, 31, 30, 31)
            for m, length in enumerate(lengths, start=1):
                with self.subTest(y=y, m=m):
                    self.assertEqual(ask_one(DAY, y, m, length)[0], 0)
                    self.assertEqual(ask_one(DAY, y, m, length + 1), [-1])
                    self.assertEqual(ask_one(DAY, y, m, 0), [-1])

    def test_every_first_of_a_month(self):
        for y in (1, 4, 100, 400, 1600, 1900, 1969, 1970, 2000, 2023, 2024, 9999):
            for m in range(1, 13):
                with self.subTest(y=y, m=m):
                    number = (datetime.date(y, m, 1) - EPOCH).days
                    self.assertEqual(ask_one(DAY, y, m, 1), [0, number])

    def test_no_such_day(self):
        for y, m, d in ((2024, 0, 1), (2024, 13, 1), (2024, -1, 1), (2024, 1, 0), (2024, 1, 32), (2024, 1, -1),
                        (0, 1, 1), (-1, 1, 1), (2024, -11, 1), (-4, 2, 29)):
            with self.subTest(y=y, m=m, d=d):
                self.assertEqual(ask_one(DAY, y, m, d), [-1])

    def test_huge_numbers(self):
        for number in (HUGE, -HUGE):
            self.assertEqual(ask((DAY, number, 1, 1), (DAY, 2024, number, 1), (DAY, 2024, 1, number),
                                 (DAY, number, number, number)), [[-1]] * 4)
