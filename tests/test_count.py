import time
import unittest

from tests.helper import (BY_DAY, BY_MONTH, BY_WEEK, BY_YEAR, COUNT, FIRST_DAY, HUGE, LAST_DAY, ask, ask_one, day,
                          recur_call, recurs)

ALL_DAYS = [*range(-31, 0), *range(1, 32)]
ALL_PAIRS = [(k, w) for k in (-5, -4, -3, -2, -1, 1, 2, 3, 4, 5) for w in range(7)]


def counts(recurrence, *spans):
    found = ask(recur_call(*recurrence), *[(COUNT, *span) for span in spans])
    assert all(len(answer) == 1 for answer in found), found
    return [answer[0] for answer in found[1:]]


class TestRefusals(unittest.TestCase):
    def test_no_recurrence_set_comes_first(self):
        for a, b in ((0, 0), (5, 0), (0, 100000), (FIRST_DAY - 1, 0), (0, LAST_DAY + 1), (HUGE, -HUGE), (-HUGE, HUGE)):
            self.assertEqual(ask_one(COUNT, a, b), [-3])

    def test_no_day_comes_next(self):
        for a, b in ((FIRST_DAY - 1, FIRST_DAY), (LAST_DAY, LAST_DAY + 1), (0, LAST_DAY + 1), (FIRST_DAY - 1, 0),
                     (LAST_DAY + 1, 0), (0, FIRST_DAY - 1), (HUGE, 0), (0, HUGE), (-HUGE, HUGE), (HUGE, HUGE)):
            self.assertEqual(counts((BY_DAY, 1, 0), (a, b)), [-1])

    def test_too_long(self):
        self.assertEqual(counts((BY_DAY, 1, 0), (0, 99999), (0, 100000), (5, 100004), (5, 100005), (-100000, -1),
                                (-100000, 0), (FIRST_DAY, LAST_DAY)), [100000, -2, 100000, -2, 0, -2, -2])


class TestCount(unittest.TestCase):
    def test_a_single_day(self):
        self.assertEqual(counts((BY_DAY, 2, 0), (0, 0), (1, 1), (2, 2), (-2, -2)), [1, 0, 1, 0])

    def test_both_ends_belong_to_it(self):
        self.assertEqual(counts((BY_DAY, 10, 0), (0, 10), (1, 10), (0, 9), (1, 9), (10, 30)), [2, 1, 1, 0, 3])

    def test_b_before_a(self):
        for recurrence in ((BY_DAY, 1, 0), (BY_WEEK, 1, 0, None, (1,)), (BY_MONTH, 1, 0, None, (1,))):
            self.assertEqual(counts(recurrence, (1, 0), (1000, 5), (LAST_DAY, FIRST_DAY), (200000, 0)), [0] * 4)

    def test_from_and_until(self):
        self.assertEqual(counts((BY_DAY, 1, 10, 19), (0, 100), (10, 19), (12, 100), (0, 12), (0, 9), (20, 100)),
                         [10, 10, 8, 3, 0, 0])

    def test_in_months(self):
        start = day(2023, 1, 1)
        self.assertEqual(counts((BY_DAY, 1, start, None, (), (2,)), (start, start + 364), (start, start + 730)),
                         [28, 57])
        self.assertEqual(counts((BY_DAY, 7, start, None, (), (1, 3)), (start, start + 364)), [9])
        self.assertEqual(counts((BY_WEEK, 1, start, None, (6,), (1, 3)), (start, start + 364)), [9])

    def test_parts_of_months(self):
        self.assertEqual(counts((BY_MONTH, 1, day(2024, 1, 1), None, (1, 10, 20)), (day(2024, 1, 5), day(2024, 1, 15)),
                                (day(2024, 1, 1), day(2024, 1, 31)), (day(2024, 1, 10), day(2024, 3, 9)),
                                (day(2024, 1, 10), day(2024, 3, 10)), (day(2024, 1, 11), day(2024, 3, 10)),
                                (day(2024, 1, 21), day(2024, 1, 31))), [1, 3, 6, 7, 6, 0])

    def test_told_twice_counts_once(self):
        span = (day(2023, 1, 1), day(2023, 12, 31))
        for by in (BY_MONTH, BY_YEAR):
            self.assertEqual(counts((by, 1, span[0], None, (-31, 1)), span), [12])
            self.assertEqual(counts((by, 1, span[0], None, (-28, 1), (2,)), span), [1])
            # The 1st of month 10 of 2023 was its first Sunday.
            self.assertEqual(counts((by, 1, span[0], None, (1,), (10,), ((1, 6),)), span), [1])
            self.assertEqual(counts((by, 1, span[0], None, (), (2,), ((-4, 0), (1, 0))), span), [1])
            self.assertEqual(counts((by, 1, span[0], None, ALL_DAYS, (), ALL_PAIRS), span), [365])

    def test_at_both_ends_of_the_calendar(self):
        for by, days in ((BY_DAY, ()), (BY_WEEK, tuple(range(7))), (BY_MONTH, ALL_DAYS), (BY_YEAR, ALL_DAYS)):
            with self.subTest(by=by):
                self.assertEqual(counts((by, 1, FIRST_DAY, None, days), (FIRST_DAY, FIRST_DAY),
                                        (FIRST_DAY, FIRST_DAY + 99999), (FIRST_DAY, FIRST_DAY + 100000),
                                        (LAST_DAY, LAST_DAY), (LAST_DAY - 99999, LAST_DAY),
                                        (LAST_DAY - 100000, LAST_DAY)), [1, 100000, -2, 1, 100000, -2])


class TestLongStretches(unittest.TestCase):
    def test_as_the_plain_recurrence(self):
        for recurrence in ((BY_DAY, 3, -50000, None, (), (1, 2, 12)), (BY_WEEK, 5, -50000, None, (0, 4, 6), (2, 3, 4)),
                           (BY_MONTH, 7, -50000, 49000, (-31, -2, 1, 30), (), ((-5, 2), (5, 5))),
                           (BY_YEAR, 4, -49990, None, (29,), (2, 7), ((-1, 0), (1, 6)))):
            wanted = sum(recurs(n, *recurrence) for n in range(-50000, 50000))
            with self.subTest(recurrence=recurrence):
                self.assertEqual(counts(recurrence, (-50000, 49999)), [wanted])

    def test_many_on_one_list_in_reasonable_time(self):
        begun = time.monotonic()
        for by, days, pairs in ((BY_DAY, (), ()), (BY_WEEK, tuple(range(7)), ()), (BY_MONTH, ALL_DAYS, ALL_PAIRS),
                                (BY_YEAR, ALL_DAYS, ALL_PAIRS)):
            spans = [(7000 * at, 7000 * at + 99999) for at in range(399)]
            self.assertEqual(counts((by, 1, 0, None, days, (), pairs), *spans), [100000] * 399)
        self.assertLess(time.monotonic() - begun, 60)
