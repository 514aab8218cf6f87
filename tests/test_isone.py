import unittest

from tests.helper import (BY_DAY, BY_MONTH, BY_WEEK, BY_YEAR, FIRST_DAY, HUGE, ISONE, LAST_DAY, ask, ask_one, day,
                          in_lines, recur_call)


def ones(recurrence, low, high):
    """The days, from low on to high, that are answered 1; all others must be answered 0."""
    span = range(low, high + 1)
    found = in_lines([(ISONE, n) for n in span], recur_call(*recurrence))
    assert all(answer in ([0], [1]) for answer in found), found
    return [n for n, answer in zip(span, found) if answer == [1]]


def ones_of_year(recurrence, y):
    """Month and day of each of the recurrence's days in the year."""
    found = ones(recurrence, day(y, 1, 1), day(y, 12, 31))
    dates = {day(y, m, d): (m, d) for m in range(1, 13) for d in range(1, 32) if is_date(y, m, d)}
    return [dates[n] for n in found]


def is_date(y, m, d):
    try:
        day(y, m, d)
    except ValueError:
        return False
    return True


class TestRefusals(unittest.TestCase):
    def test_no_recurrence_set(self):
        self.assertEqual(ask_one(ISONE, 0), [-3])
        for n in (FIRST_DAY - 1, LAST_DAY + 1, HUGE, -HUGE):
            self.assertEqual(ask_one(ISONE, n), [-3])

    def test_no_day(self):
        for n in (FIRST_DAY - 1, LAST_DAY + 1, HUGE, -HUGE):
            self.assertEqual(ask(recur_call(BY_DAY, 1, FIRST_DAY), (ISONE, n)), [[0], [-1]])


class TestFromAndUntil(unittest.TestCase):
    def test_by_each(self):
        for by, days in ((BY_DAY, ()), (BY_WEEK, tuple(range(7))), (BY_MONTH, tuple(range(1, 32))),
                         (BY_YEAR, tuple(range(1, 32)))):
            with self.subTest(by=by):
                self.assertEqual(ones((by, 1, 100, None, days), 90, 110), list(range(100, 111)))
                self.assertEqual(ones((by, 1, 100, 105, days), 90, 110), list(range(100, 106)))
                self.assertEqual(ones((by, 1, 100, 100, days), 90, 110), [100])
                self.assertEqual(ones((by, 1, 100, 99, days), 90, 110), [])
                self.assertEqual(ones((by, 1, -5, 0, days), -10, 10), list(range(-5, 1)))

    def test_ends_of_the_calendar(self):
        for by, days in ((BY_DAY, ()), (BY_WEEK, tuple(range(7))), (BY_MONTH, (1, 31)), (BY_YEAR, (1, 31))):
            call = recur_call(by, 1, FIRST_DAY, None, days)
            self.assertEqual(ask(call, (ISONE, FIRST_DAY), (ISONE, LAST_DAY)), [[0], [1], [1]])
            call = recur_call(by, 1, LAST_DAY, LAST_DAY, days)
            self.assertEqual(ask(call, (ISONE, LAST_DAY - 1), (ISONE, LAST_DAY)), [[0], [0], [1]])
            call = recur_call(by, 1, FIRST_DAY, FIRST_DAY, days)
            self.assertEqual(ask(call, (ISONE, FIRST_DAY), (ISONE, FIRST_DAY + 1)), [[0], [1], [0]])


class TestByDay(unittest.TestCase):
    def test_every_n_th(self):
        self.assertEqual(ones((BY_DAY, 1, 0), -3, 3), [0, 1, 2, 3])
        self.assertEqual(ones((BY_DAY, 3, -1), -10, 10), [-1, 2, 5, 8])
        self.assertEqual(ones((BY_DAY, 1000, 5), 0, 3100), [5, 1005, 2005, 3005])

    def test_in_its_months(self):
        # The months choose among every n-th day; the counting goes on over the others.
        start = day(2024, 1, 1)
        self.assertEqual(ones((BY_DAY, 10, start, None, (), (2,)), start, start + 100),
                         [day(2024, 2, 10), day(2024, 2, 20)])
        self.assertEqual(ones((BY_DAY, 1, start, None, (), (2, 4)), start, day(2024, 12, 31)),
                         [*range(day(2024, 2, 1), day(2024, 3, 1)), *range(day(2024, 4, 1), day(2024, 5, 1))])


class TestByWeek(unittest.TestCase):
    def test_weekdays(self):
        # 2024 began on a Monday.
        self.assertEqual(ones_of_year((BY_WEEK, 1, day(2024, 12, 1), None, (0, 6)), 2024),
                         [(12, d) for d in (1, 2, 8, 9, 15, 16, 22, 23, 29, 30)])

    def test_every_second_week_from_a_monday(self):
        self.assertEqual(ones_of_year((BY_WEEK, 2, day(2024, 1, 1), day(2024, 2, 10), (0, 3)), 2024),
                         [(1, 1), (1, 4), (1, 15), (1, 18), (1, 29), (2, 1)])

    def test_a_week_that_begins_before_from(self):
        # From a Thursday: of its own week only what is left counts, and the turns go by that week's Monday.
        self.assertEqual(ones_of_year((BY_WEEK, 2, day(2024, 1, 4), day(2024, 2, 10), (0, 3)), 2024),
                         [(1, 4), (1, 15), (1, 18), (1, 29), (2, 1)])
        self.assertEqual(ones_of_year((BY_WEEK, 2, day(2024, 1, 7), day(2024, 1, 31), (0, 6)), 2024),
                         [(1, 7), (1, 15), (1, 21), (1, 29)])
        self.assertEqual(ones_of_year((BY_WEEK, 3, day(2024, 1, 5), day(2024, 2, 20), (1,)), 2024),
                         [(1, 23), (2, 13)])

    def test_from_before_1970(self):
        # Day 0 is a Thursday, its week's Monday is day -3.
        self.assertEqual(ones((BY_WEEK, 2, -2, None, (0, 3)), -20, 30), [0, 11, 14, 25, 28])

    def test_in_its_months(self):
        # The week of 2024-07-29 lies in two months.
        week = (BY_WEEK, 1, day(2024, 7, 29), day(2024, 8, 4), tuple(range(7)))
        self.assertEqual(ones_of_year((*week, (7,)), 2024), [(7, 29), (7, 30), (7, 31)])
        self.assertEqual(ones_of_year((*week, (8,)), 2024), [(8, 1), (8, 2), (8, 3), (8, 4)])

    def test_over_a_years_end(self):
        self.assertEqual(ones((BY_WEEK, 2, day(2024, 12, 23), None, (2,)), day(2024, 12, 20), day(2025, 1, 31)),
                         [day(2024, 12, 25), day(2025, 1, 8), day(2025, 1, 22)])

    def test_every_1000th_week(self):
        self.assertEqual(ask(recur_call(BY_WEEK, 1000, 0, None, (3,)), (ISONE, 0), (ISONE, 7), (ISONE, 6993),
                             (ISONE, 7000), (ISONE, 14000)), [[0], [1], [0], [0], [1], [1]])


class TestByMonth(unittest.TestCase):
    def test_days_from_either_end(self):
        lasts = [(1, 31), (2, 28), (3, 31), (4, 30), (5, 31), (6, 30), (7, 31), (8, 31), (9, 30), (10, 31), (11, 30),
                 (12, 31)]
        start = day(2023, 1, 1)
        self.assertEqual(ones_of_year((BY_MONTH, 1, start, None, (-1,)), 2023), lasts)
        self.assertEqual(ones_of_year((BY_MONTH, 1, start, None, (31,)), 2023),
                         [date for date in lasts if date[1] == 31])
        self.assertEqual(ones_of_year((BY_MONTH, 1, start, None, (30,)), 2023),
                         [(m, 30) for m in range(1, 13) if m != 2])
        self.assertEqual(ones_of_year((BY_MONTH, 1, start, None, (-31,)), 2023),
                         [(m, 1) for m in (1, 3, 5, 7, 8, 10, 12)])
        self.assertEqual(ones_of_year((BY_MONTH, 1, start, None, (-30,)), 2023),
                         [(m, 2 if last == 31 else 1) for m, last in lasts if m != 2])
        self.assertEqual(ones_of_year((BY_MONTH, 1, start, None, (1,)), 2023), [(m, 1) for m in range(1, 13)])

    def test_day_29_in_month_2(self):
        for y, dates in ((2023, []), (2024, [(2, 29)]), (2100, []), (2000, [(2, 29)])):
            start = day(y, 1, 1)
            self.assertEqual(ones_of_year((BY_MONTH, 1, start, None, (29,), (2,)), y), dates)
            self.assertEqual(ones_of_year((BY_MONTH, 1, start, None, (-29,), (2,)), y), [(2, 1)] if dates else [])

    def test_a_day_told_from_both_ends(self):
        self.assertEqual(ones_of_year((BY_MONTH, 1, day(2023, 1, 1), None, (-28, 1), (2,)), 2023), [(2, 1)])

    def test_every_n_th_month(self):
        self.assertEqual(ones_of_year((BY_MONTH, 5, day(2024, 2, 20), None, (10, 25)), 2024),
                         [(2, 25), (7, 10), (7, 25), (12, 10), (12, 25)])
        self.assertEqual(ones_of_year((BY_MONTH, 5, day(2024, 2, 20), None, (10,)), 2025), [(5, 10), (10, 10)])
        self.assertEqual(ask(recur_call(BY_MONTH, 1000, day(2024, 2, 20), None, (1,)), (ISONE, day(2107, 6, 1)),
                             (ISONE, day(2107, 5, 1)), (ISONE, day(2107, 7, 1))), [[0], [1], [0], [0]])

    def test_if_it_is_in_months(self):
        # A month that isn't told is no turn less.
        self.assertEqual(ones_of_year((BY_MONTH, 2, day(2024, 1, 1), None, (1,), (2, 3, 4, 7)), 2024), [(3, 1), (7, 1)])
        self.assertEqual(ones_of_year((BY_MONTH, 2, day(2024, 1, 1), None, (1,), (2, 4)), 2024), [])


class TestPairs(unittest.TestCase):
    def test_from_the_beginning(self):
        # In month 10 of 2024, of 31 days, the 1st was a Tuesday.
        for k, w, d in ((1, 1, 1), (1, 0, 7), (2, 1, 8), (3, 6, 20), (4, 0, 28), (5, 1, 29), (5, 3, 31)):
            with self.subTest(k=k, w=w):
                self.assertEqual(ones_of_year((BY_YEAR, 1, day(2024, 1, 1), None, (), (10,), ((k, w),)), 2024),
                                 [(10, d)])

    def test_from_the_end(self):
        for k, w, d in ((-1, 3, 31), (-1, 4, 25), (-2, 3, 24), (-3, 6, 13), (-4, 4, 4), (-5, 3, 3), (-5, 1, 1)):
            with self.subTest(k=k, w=w):
                self.assertEqual(ones_of_year((BY_MONTH, 1, day(2024, 1, 1), None, (), (10,), ((k, w),)), 2024),
                                 [(10, d)])

    def test_fifth_ones_that_there_are_not(self):
        # 28 days have no fifth weekday, 29 have one, 30 two, 31 three; the fourth is not taken for it.
        for y, m, length, first in ((2023, 2, 28, 2), (2024, 2, 29, 3), (2024, 4, 30, 0), (2024, 10, 31, 1)):
            five = [w % 7 for w in range(first, first + length - 28)]
            for w in range(7):
                since = day(y, m, 1)
                behind = since + (w - first) % 7 + 28
                with self.subTest(y=y, m=m, w=w):
                    self.assertEqual(ones((BY_MONTH, 1, since, since + length - 1, (), (), ((5, w),)), since - 5,
                                          since + 35), [behind] if w in five else [])
                    self.assertEqual(ones((BY_MONTH, 1, since, since + length - 1, (), (), ((-5, w),)), since - 5,
                                          since + 35), [behind - 28] if w in five else [])

    def test_first_and_last_in_every_month(self):
        found = ones_of_year((BY_MONTH, 1, day(2023, 1, 1), None, (), (), ((-1, 4), (1, 0))), 2023)
        self.assertEqual(found, [(1, 2), (1, 27), (2, 6), (2, 24), (3, 6), (3, 31), (4, 3), (4, 28), (5, 1), (5, 26),
                                 (6, 5), (6, 30), (7, 3), (7, 28), (8, 7), (8, 25), (9, 4), (9, 29), (10, 2), (10, 27),
                                 (11, 6), (11, 24), (12, 4), (12, 29)])

    def test_days_and_pairs_together(self):
        # The 1st of month 10 of 2024 is told by the day and by the pair.
        found = ones_of_year((BY_MONTH, 1, day(2024, 9, 1), day(2024, 10, 31), (1,), (), ((1, 1),)), 2024)
        self.assertEqual(found, [(9, 1), (9, 3), (10, 1)])


class TestByYear(unittest.TestCase):
    def test_in_each_month(self):
        found = ones_of_year((BY_YEAR, 1, day(2024, 1, 1), None, (15,)), 2024)
        self.assertEqual(found, [(m, 15) for m in range(1, 13)])

    def test_in_its_months(self):
        recurrence = (BY_YEAR, 1, day(2023, 6, 10), None, (-1, 5), (2, 6))
        self.assertEqual(ones_of_year(recurrence, 2022), [])
        self.assertEqual(ones_of_year(recurrence, 2023), [(6, 30)])
        self.assertEqual(ones_of_year(recurrence, 2024), [(2, 5), (2, 29), (6, 5), (6, 30)])

    def test_every_n_th_year(self):
        recurrence = (BY_YEAR, 3, day(2023, 6, 10), None, (1, 20), (1, 6))
        self.assertEqual([ones_of_year(recurrence, y) for y in range(2022, 2030)],
                         [[], [(6, 20)], [], [], [(1, 1), (1, 20), (6, 1), (6, 20)], [], [],
                          [(1, 1), (1, 20), (6, 1), (6, 20)]])
        self.assertEqual(ask(recur_call(BY_YEAR, 1000, day(2023, 6, 10), None, (1,), (1,)), (ISONE, day(3023, 1, 1)),
                             (ISONE, day(3022, 1, 1)), (ISONE, day(3024, 1, 1)), (ISONE, day(9023, 1, 1))),
                         [[0], [1], [0], [0], [1]])

    def test_day_29_of_month_2(self):
        found = ones((BY_YEAR, 1, day(2095, 1, 1), day(2105, 1, 1), (29,), (2,)), day(2095, 1, 1), day(2105, 1, 1))
        self.assertEqual(found, [day(2096, 2, 29), day(2104, 2, 29)])
