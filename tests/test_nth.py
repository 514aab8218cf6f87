import unittest

from tests.helper import (BY_DAY, BY_MONTH, BY_WEEK, BY_YEAR, FIRST_DAY, HUGE, LAST_DAY, NTH, ask, ask_one, day,
                          recur_call)

EACH_DAY = ((BY_DAY, ()), (BY_WEEK, tuple(range(7))), (BY_MONTH, tuple(range(1, 32))), (BY_YEAR, tuple(range(1, 32))))


def found(recurrence, *asked):
    return ask(recur_call(*recurrence), *[(NTH, *numbers) for numbers in asked])[1:]


class TestRefusals(unittest.TestCase):
    def test_no_recurrence_set_comes_first(self):
        for a, k in ((0, 0), (0, -1), (FIRST_DAY - 1, 0), (LAST_DAY + 1, -1), (HUGE, HUGE), (-HUGE, -HUGE)):
            self.assertEqual(ask_one(NTH, a, k), [-3])

    def test_no_day(self):
        for a in (FIRST_DAY - 1, LAST_DAY + 1, HUGE, -HUGE):
            for k in (0, -1, HUGE):
                self.assertEqual(found((BY_DAY, 1, 0), (a, k)), [[-1]])

    def test_k_below_0(self):
        self.assertEqual(found((BY_DAY, 1, 0), (0, -1), (0, -HUGE), (LAST_DAY, -1)), [[-1]] * 3)
        self.assertEqual(found((BY_DAY, 1, 10, 9), (0, -1)), [[-1]])

    def test_a_huge_k(self):
        for by, days in EACH_DAY:
            self.assertEqual(found((by, 1, 0, None, days), (0, HUGE), (LAST_DAY, HUGE)), [[-4]] * 2)


class TestNth(unittest.TestCase):
    def test_from_0_on(self):
        self.assertEqual(found((BY_DAY, 3, 0), (0, 0), (0, 1), (1, 0), (2, 5), (3, 0), (-100, 0), (-100, 2)),
                         [[0, 0], [0, 3], [0, 3], [0, 18], [0, 3], [0, 0], [0, 6]])

    def test_the_last_and_one_more(self):
        self.assertEqual(found((BY_DAY, 3, 0, 10), (0, 3), (0, 4), (9, 0), (9, 1), (10, 0)),
                         [[0, 9], [-4], [0, 9], [-4], [-4]])
        since, until = day(2024, 1, 31), day(2024, 6, 1)
        self.assertEqual(found((BY_MONTH, 1, since, until, (-1,)), *[(since, k) for k in range(6)]),
                         [[0, day(2024, 1, 31)], [0, day(2024, 2, 29)], [0, day(2024, 3, 31)], [0, day(2024, 4, 30)],
                          [0, day(2024, 5, 31)], [-4]])

    def test_within_a_month(self):
        recurrence = (BY_MONTH, 1, day(2024, 1, 1), None, (1, 10, 20, 31))
        self.assertEqual(found(recurrence, (day(2024, 1, 10), 0), (day(2024, 1, 11), 0), (day(2024, 1, 11), 1),
                               (day(2024, 1, 11), 2), (day(2024, 1, 11), 4)),
                         [[0, day(2024, 1, 10)], [0, day(2024, 1, 20)], [0, day(2024, 1, 31)], [0, day(2024, 2, 1)],
                          [0, day(2024, 2, 20)]])

    def test_a_day_told_twice_is_one(self):
        # The 1st of month 10 of 2023 was its first Sunday.
        recurrence = (BY_YEAR, 1, day(2023, 1, 1), None, (-31, 1), (10,), ((1, 6),))
        self.assertEqual(found(recurrence, (day(2023, 1, 1), 0), (day(2023, 1, 1), 1), (day(2023, 1, 1), 2)),
                         [[0, day(2023, 10, 1)], [0, day(2024, 10, 1)], [0, day(2024, 10, 6)]])

    def test_none_at_all(self):
        self.assertEqual(found((BY_DAY, 1, 10, 9), (0, 0)), [[-4]])
        self.assertEqual(found((BY_MONTH, 12, day(2024, 1, 1), None, (30,), (2,)), (day(2024, 1, 1), 0)), [[-4]])
        self.assertEqual(found((BY_YEAR, 1, day(2024, 1, 1), None, (30,), (2,)), (day(2024, 1, 1), 0)), [[-4]])


class TestThe100000Days(unittest.TestCase):
    def test_the_last_of_them_counts_and_the_next_does_not(self):
        for by, days in EACH_DAY:
            with self.subTest(by=by):
                self.assertEqual(found((by, 1, 0, None, days), (0, 99999), (0, 100000), (7, 99999), (7, 100000)),
                                 [[0, 99999], [-4], [0, 100006], [-4]])

    def test_from_far_ahead_of_from(self):
        for by, days in EACH_DAY:
            with self.subTest(by=by):
                self.assertEqual(found((by, 1, 0, None, days), (-99999, 0), (-99999, 1), (-100000, 0)),
                                 [[0, 0], [-4], [-4]])

    def test_at_the_end_of_the_calendar(self):
        for by, days in EACH_DAY:
            with self.subTest(by=by):
                since = LAST_DAY - 99999
                self.assertEqual(found((by, 1, 0, None, days), (LAST_DAY, 0), (LAST_DAY, 1), (since, 99999),
                                       (since, 100000), (since + 1, 99998), (since + 1, 99999)),
                                 [[0, LAST_DAY], [-4], [0, LAST_DAY], [-4], [0, LAST_DAY], [-4]])

    def test_at_its_beginning(self):
        for by, days in EACH_DAY:
            self.assertEqual(found((by, 1, FIRST_DAY, None, days), (FIRST_DAY, 0), (FIRST_DAY, 40)),
                             [[0, FIRST_DAY], [0, FIRST_DAY + 40]])

    def test_seldom_ones(self):
        start = day(2024, 2, 29)
        recurrence = (BY_YEAR, 1, start, None, (29,), (2,))
        # 2100 and 2200 are left out; 2296 is the last within 100,000 days.
        self.assertEqual(found(recurrence, (start, 1), (start, 18), (start, 19), (start, 66), (start, 67)),
                         [[0, day(2028, 2, 29)], [0, day(2096, 2, 29)], [0, day(2104, 2, 29)], [0, day(2296, 2, 29)],
                          [-4]])
