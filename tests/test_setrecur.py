import unittest

from tests.helper import (BY_DAY, BY_MONTH, BY_WEEK, BY_YEAR, COUNT, FIRST_DAY, HUGE, ISONE, LAST_DAY, NTH, SETRECUR,
                          ask, ask_one, recur_call)

ALL_DAYS = [*range(-31, 0), *range(1, 32)]
ALL_MONTHS = list(range(1, 13))
ALL_PAIRS = [(k, w) for k in (-5, -4, -3, -2, -1, 1, 2, 3, 4, 5) for w in range(7)]
MONTH_AND_YEAR = (BY_MONTH, BY_YEAR)

# One recurrence of each sort that the numbers may tell.
PLAIN = {BY_DAY: {}, BY_WEEK: {"days": [2]}, BY_MONTH: {"days": [15]}, BY_YEAR: {"pairs": [(1, 0)]}}


def told(by, every=1, first=0, until=None, **lists):
    return ask_one(*recur_call(by, every, first, until, **lists))


class TestHowManyNumbers(unittest.TestCase):
    def test_none_at_all_and_too_few(self):
        whole = recur_call(BY_MONTH, 2, 0, 100, [1, 15], [3, 4, 5], [(-1, 4), (2, 0)])
        self.assertEqual(ask_one(*whole), [0])
        for length in range(1, len(whole)):
            with self.subTest(numbers=length - 1):
                self.assertEqual(ask_one(*whole[:length]), [-5])

    def test_too_few_of_the_shortest(self):
        whole = recur_call(BY_DAY, 1, 0)
        self.assertEqual(len(whole), 9)
        self.assertEqual(ask_one(*whole), [0])
        for length in range(1, 9):
            self.assertEqual(ask_one(*whole[:length]), [-5])

    def test_too_many(self):
        for by in PLAIN:
            whole = recur_call(by, 1, 0, **PLAIN[by])
            self.assertEqual(ask_one(*whole, 0), [-5])
            self.assertEqual(ask_one(*whole, 1, 0), [-5])
            self.assertEqual(ask_one(*whole, 5, 6), [-5])
        self.assertEqual(ask_one(SETRECUR, *[0] * 600), [-5])
        self.assertEqual(ask_one(SETRECUR, 0, 1, *[0] * 598), [-5])

    def test_below_none(self):
        for count in (-1, -2, -HUGE):
            self.assertEqual(ask_one(SETRECUR, 0, 1, 0, 0, 0, count, 0, 0), [-5])
            self.assertEqual(ask_one(SETRECUR, 0, 1, 0, 0, 0, 0, count, 0), [-5])
            self.assertEqual(ask_one(SETRECUR, 0, 1, 0, 0, 0, 0, 0, count), [-5])
        self.assertEqual(ask_one(SETRECUR, 0, 1, 0, 0, 0, -1), [-5])
        self.assertEqual(ask_one(SETRECUR, 0, 1, 0, 0, 0, 0, -1), [-5])
        self.assertEqual(ask_one(SETRECUR, 0, 1, 0, 0, 0, -1, 0, 0, 0), [-5])

    def test_at_their_most_and_one_more(self):
        for by in MONTH_AND_YEAR:
            self.assertEqual(told(by, days=ALL_DAYS), [0])
            self.assertEqual(told(by, pairs=ALL_PAIRS), [0])
            self.assertEqual(told(by, days=ALL_DAYS, months=ALL_MONTHS, pairs=ALL_PAIRS), [0])
            self.assertEqual(told(by, days=[*ALL_DAYS, 32]), [-5])
            self.assertEqual(told(by, days=[1], months=[*ALL_MONTHS, 13]), [-5])
            self.assertEqual(told(by, pairs=[*ALL_PAIRS, (6, 0)]), [-5])
        self.assertEqual(told(BY_WEEK, days=list(range(7)), months=ALL_MONTHS), [0])
        self.assertEqual(told(BY_WEEK, days=list(range(8))), [-5])
        self.assertEqual(told(BY_DAY, months=ALL_MONTHS), [0])
        self.assertEqual(told(BY_DAY, months=[0, *ALL_MONTHS]), [-5])

    def test_huge_counts(self):
        for at in (6, 7, 8):
            whole = list(recur_call(BY_DAY, 1, 0))
            whole[at] = HUGE
            self.assertEqual(ask_one(*whole), [-5])


class TestAheadOfTheLists(unittest.TestCase):
    def test_by(self):
        for by in PLAIN:
            self.assertEqual(told(by, **PLAIN[by]), [0])
        for by in (-1, 4, HUGE, -HUGE):
            for lists in PLAIN.values():
                self.assertEqual(told(by, **lists), [-5])

    def test_every(self):
        for by in PLAIN:
            for every in (1, 2, 999, 1000):
                self.assertEqual(told(by, every, **PLAIN[by]), [0])
            for every in (0, -1, 1001, HUGE, -HUGE):
                self.assertEqual(told(by, every, **PLAIN[by]), [-5])

    def test_from(self):
        for by in PLAIN:
            for first in (FIRST_DAY, -1, 0, LAST_DAY):
                self.assertEqual(told(by, 1, first, **PLAIN[by]), [0])
            for first in (FIRST_DAY - 1, LAST_DAY + 1, HUGE, -HUGE):
                self.assertEqual(told(by, 1, first, **PLAIN[by]), [-5])

    def test_until(self):
        for by in PLAIN:
            for until in (FIRST_DAY, -1, 0, 1, LAST_DAY):
                self.assertEqual(told(by, 1, 0, until, **PLAIN[by]), [0])
            for until in (FIRST_DAY - 1, LAST_DAY + 1, HUGE, -HUGE):
                self.assertEqual(told(by, 1, 0, until, **PLAIN[by]), [-5])

    def test_has(self):
        for has, until, answer in ((0, 0, 0), (1, 0, 0), (1, 5, 0), (0, 5, -5), (0, -5, -5), (0, LAST_DAY + 1, -5),
                                   (2, 0, -5), (2, 5, -5), (-1, 0, -5), (-1, 5, -5), (HUGE, 0, -5), (-HUGE, 0, -5)):
            with self.subTest(has=has, until=until):
                self.assertEqual(ask_one(SETRECUR, 0, 1, 0, has, until, 0, 0, 0), [answer])

    def test_an_until_before_from(self):
        for by in PLAIN:
            self.assertEqual(ask(recur_call(by, 1, 100, 99, **PLAIN[by]), (ISONE, 99), (ISONE, 100),
                                 (COUNT, -1000, 1000), (NTH, -1000, 0)), [[0], [0], [0], [0], [-4]])


class TestDays(unittest.TestCase):
    def test_by_day_none(self):
        self.assertEqual(told(BY_DAY), [0])
        for number in (-1, 0, 1, 6):
            self.assertEqual(told(BY_DAY, days=[number]), [-5])

    def test_by_week_weekdays(self):
        for number in range(7):
            self.assertEqual(told(BY_WEEK, days=[number]), [0])
        for number in (-1, 7, HUGE, -HUGE):
            self.assertEqual(told(BY_WEEK, days=[number]), [-5])
        for numbers in ([-1, 3], [3, 7], [0, 6, 7]):
            self.assertEqual(told(BY_WEEK, days=numbers), [-5])

    def test_by_week_at_least_one(self):
        self.assertEqual(told(BY_WEEK), [-5])
        self.assertEqual(told(BY_WEEK, months=[1]), [-5])

    def test_by_month_and_year_from_either_end(self):
        for by in MONTH_AND_YEAR:
            for number in ALL_DAYS:
                self.assertEqual(told(by, days=[number]), [0])
            for number in (0, -32, 32, HUGE, -HUGE):
                self.assertEqual(told(by, days=[number]), [-5])
                self.assertEqual(told(by, days=[number], pairs=[(1, 1)]), [-5])
            for numbers in ([-1, 0, 1], [-32, 1], [1, 32]):
                self.assertEqual(told(by, days=numbers), [-5])

    def test_rising_strictly(self):
        for by in (BY_WEEK, *MONTH_AND_YEAR):
            self.assertEqual(told(by, days=[1, 2, 3]), [0])
            for numbers in ([1, 1], [2, 1], [1, 3, 2], [1, 2, 2], [3, 1, 6], [6, 1, 3]):
                self.assertEqual(told(by, days=numbers), [-5])
        for by in MONTH_AND_YEAR:
            # As numbers: those from the month's end come first.
            self.assertEqual(told(by, days=[-2, -1, 1, 2]), [0])
            for numbers in ([1, -1], [-1, -2], [-1, -1], [1, 2, -2, -1], [40, 1], [1, -40]):
                self.assertEqual(told(by, days=numbers), [-5])


class TestMonths(unittest.TestCase):
    def test_bounds(self):
        for by in PLAIN:
            for months in ([], [1], [12], [1, 12], ALL_MONTHS):
                self.assertEqual(told(by, months=months, **PLAIN[by]), [0])
            for months in ([0], [13], [-1], [HUGE], [-HUGE], [0, 12], [1, 13]):
                self.assertEqual(told(by, months=months, **PLAIN[by]), [-5])

    def test_rising_strictly(self):
        for by in PLAIN:
            for months in ([3, 3], [4, 3], [1, 5, 4], [1, 1, 2], [13, 1], [2, 0]):
                self.assertEqual(told(by, months=months, **PLAIN[by]), [-5])


class TestPairs(unittest.TestCase):
    def test_by_day_and_week_none(self):
        self.assertEqual(told(BY_DAY, pairs=[(1, 0)]), [-5])
        self.assertEqual(told(BY_WEEK, days=[1], pairs=[(1, 0)]), [-5])
        self.assertEqual(told(BY_WEEK, pairs=[(1, 0)]), [-5])

    def test_bounds(self):
        for by in MONTH_AND_YEAR:
            for pair in ALL_PAIRS:
                self.assertEqual(told(by, pairs=[pair]), [0])
            for pair in ((0, 0), (6, 0), (-6, 0), (1, -1), (1, 7), (HUGE, 0), (-HUGE, 0), (1, HUGE), (1, -HUGE)):
                self.assertEqual(told(by, pairs=[pair]), [-5])
                self.assertEqual(told(by, days=[1], pairs=[pair]), [-5])
            self.assertEqual(told(by, pairs=[(-1, 0), (0, 3), (1, 0)]), [-5])

    def test_rising_by_k_then_w(self):
        for by in MONTH_AND_YEAR:
            for pairs in ([(1, 0), (1, 1)], [(1, 6), (2, 0)], [(-1, 6), (1, 0)], [(-2, 6), (-1, 0)]):
                self.assertEqual(told(by, pairs=pairs), [0])
                self.assertEqual(told(by, pairs=pairs[::-1]), [-5])
            for pairs in ([(1, 0), (1, 0)], [(-1, 3), (-1, 3)], [(1, 0), (2, 0), (2, 0)], [(1, 1), (3, 0), (2, 0)]):
                self.assertEqual(told(by, pairs=pairs), [-5])

    def test_neither_days_nor_pairs(self):
        for by in MONTH_AND_YEAR:
            self.assertEqual(told(by), [-5])
            self.assertEqual(told(by, months=[1, 2]), [-5])
            self.assertEqual(told(by, days=[1]), [0])
            self.assertEqual(told(by, pairs=[(1, 0)]), [0])
            self.assertEqual(told(by, days=[1], pairs=[(1, 0)]), [0])


class TestTheRecurrenceFromNowOn(unittest.TestCase):
    def test_the_last_one_set_holds(self):
        self.assertEqual(ask(recur_call(BY_DAY, 2, 0), (COUNT, 0, 9), recur_call(BY_DAY, 5, 1), (COUNT, 0, 9),
                             (ISONE, 0), (ISONE, 6)), [[0], [5], [0], [2], [0], [1]])

    def test_as_it_was_behind_a_refusal(self):
        wrong = [(SETRECUR,), (SETRECUR, 0, 1, 0, 0, 0, 0, 0), (*recur_call(BY_DAY, 1, 0), 0), recur_call(4, 1, 0),
                 recur_call(BY_DAY, 0, 0), recur_call(BY_DAY, 1, LAST_DAY + 1), recur_call(BY_DAY, 1, 0, LAST_DAY + 1),
                 recur_call(BY_WEEK, 1, 0), recur_call(BY_WEEK, 1, 0, None, [7]), recur_call(BY_MONTH, 1, 0),
                 recur_call(BY_MONTH, 1, 0, None, [1], [13]), recur_call(BY_YEAR, 1, 0, None, [1], [], [(0, 0)])]
        for call in wrong:
            with self.subTest(call=call):
                self.assertEqual(ask(call, (ISONE, 0), (COUNT, 0, 9), (NTH, 0, 0)), [[-5], [-3], [-3], [-3]])
                self.assertEqual(ask(recur_call(BY_DAY, 3, 1), call, (ISONE, 0), (ISONE, 1), (COUNT, 0, 9),
                                     (NTH, 0, 2)), [[0], [-5], [0], [1], [3], [0, 7]])
