import random
import unittest

from tests.helper import (AUTUMN, FIRST_MOMENT, HUGE, LAST_MOMENT, OFFSET, SPRING, PlainClock, ask, clock_call, moment,
                          rule_moment)


def offsets(clock, *moments):
    """The offsets at the moments; they must be answered behind a 0."""
    found = ask(clock_call(*clock), *[(OFFSET, t) for t in moments])[1:]
    assert all(answer[0] == 0 and len(answer) == 2 for answer in found), found
    return [answer[1] for answer in found]


class TestNoMoment(unittest.TestCase):
    def test_ends_of_the_moments(self):
        self.assertEqual(ask(clock_call(60), (OFFSET, FIRST_MOMENT), (OFFSET, LAST_MOMENT)), [[0], [0, 60], [0, 60]])

    def test_beyond(self):
        for t in (FIRST_MOMENT - 1, LAST_MOMENT + 1, HUGE, -HUGE):
            self.assertEqual(ask((OFFSET, t), clock_call(60, [(-HUGE, 5)]), (OFFSET, t)), [[-1], [1], [-1]])


class TestChanges(unittest.TestCase):
    def test_before_at_and_behind(self):
        clock = (10, [(100, 20), (200, -30), (300, 40)])
        self.assertEqual(offsets(clock, -5, 99, 100, 101, 199, 200, 299, 300, 301, LAST_MOMENT),
                         [10, 10, 20, 20, 20, -30, -30, 40, 40, 40])

    def test_at_the_ends_of_the_calendar(self):
        clock = (10, [(FIRST_MOMENT, 20), (LAST_MOMENT, 30)])
        self.assertEqual(offsets(clock, FIRST_MOMENT, LAST_MOMENT - 1, LAST_MOMENT), [20, 20, 30])

    def test_outside_the_calendar(self):
        clock = (10, [(FIRST_MOMENT - 1, 20), (LAST_MOMENT + 1, 30)], [SPRING, AUTUMN])
        self.assertEqual(offsets(clock, FIRST_MOMENT, moment(2024, 7, 1), LAST_MOMENT), [20, 20, 20])

    def test_64_of_them(self):
        changes = [(1000 * at, at + 1) for at in range(64)]
        moments = [1000 * at + by for at in range(64) for by in (-1, 0)]
        self.assertEqual(offsets((0, changes), *moments), [at + by for at in range(64) for by in (0, 1)])


class TestRules(unittest.TestCase):
    def test_ahead_at_and_behind(self):
        spring = moment(2024, 3, 31, 1)
        autumn = moment(2024, 10, 27, 1)
        for rules in ([SPRING, AUTUMN], [AUTUMN, SPRING]):
            self.assertEqual(offsets((0, [], rules), spring - 1, spring, spring + 1, autumn - 1, autumn, autumn + 1),
                             [3600, 7200, 7200, 7200, 3600, 3600])

    def test_from_one_year_into_the_next(self):
        rules = [SPRING, AUTUMN]
        self.assertEqual(offsets((0, [], rules), moment(2024, 12, 31, 23, 59, 59), moment(2025, 1, 1)), [3600, 3600])
        # The other half of the world has its summer over the year's end.
        rules = [(10, 1, 6, 57600, 39600), (4, 1, 6, 57600, 36000)]
        self.assertEqual(offsets((0, [], rules), moment(2024, 12, 31), moment(2025, 1, 1), moment(2025, 7, 1)),
                         [39600, 39600, 36000])

    def test_each_k(self):
        for k, d in ((1, 6), (2, 13), (3, 20), (4, 27), (5, 27)):
            at = moment(2024, 10, d)
            rules = [(10, k, 6, 0, 60), (1, 1, 0, 0, 0)]
            with self.subTest(k=k):
                self.assertEqual(offsets((0, [], rules), at - 1, at), [0, 60])
        # Five Thursdays in month 10 of 2024: k 4 and k 5 are two days.
        for k, d in ((4, 24), (5, 31)):
            at = moment(2024, 10, d)
            self.assertEqual(offsets((0, [], [(10, k, 3, 0, 60), (1, 1, 0, 0, 0)]), at - 1, at), [0, 60])

    def test_last_weekday_of_month_2(self):
        # 2024 has five Thursdays in month 2, the last one the 29th; 2023 has four.
        rules = [(2, 5, 3, 0, 60), (1, 1, 0, 0, 0)]
        for at in (moment(2024, 2, 29), moment(2023, 2, 23)):
            self.assertEqual(offsets((0, [], rules), at - 1, at), [0, 60])

    def test_last_second_of_a_day(self):
        rules = [(12, 5, 6, 86399, 60), (6, 1, 0, 0, 0)]
        at = moment(2023, 12, 31, 23, 59, 59)
        self.assertEqual(offsets((0, [], rules), at - 1, at, at + 1), [0, 60, 60])

    def test_both_on_one_day(self):
        rules = [(6, 1, 0, 200, 60), (6, 1, 0, 100, 30)]
        day = moment(2024, 6, 3)
        self.assertEqual(offsets((0, [], rules), day + 99, day + 100, day + 199, day + 200), [60, 30, 30, 60])

    def test_either_first_by_the_year(self):
        # The last Sunday and the last Monday of a month: either may come first.
        rules = [(6, 5, 6, 0, 60), (6, 5, 0, 0, 30)]
        self.assertEqual(offsets((0, [], rules), moment(2024, 7, 1), moment(2025, 7, 1)), [60, 30])

    def test_first_year(self):
        spring = rule_moment(SPRING, 1)
        autumn = rule_moment(AUTUMN, 1)
        self.assertEqual(offsets((5, [], [AUTUMN, SPRING]), FIRST_MOMENT, spring - 1, spring, autumn - 1, autumn),
                         [5, 5, 7200, 7200, 3600])
        rules = [(1, 1, 0, 0, 60), (1, 1, 0, 1, 30)]
        self.assertEqual(offsets((5, [], rules), FIRST_MOMENT, FIRST_MOMENT + 1), [60, 30])

    def test_last_year(self):
        spring = rule_moment(SPRING, 9999)
        autumn = rule_moment(AUTUMN, 9999)
        self.assertEqual(offsets((5, [], [SPRING, AUTUMN]), spring - 1, spring, autumn - 1, autumn, LAST_MOMENT),
                         [3600, 7200, 7200, 3600, 3600])
        rules = [(12, 5, 4, 86399, 60), (12, 5, 4, 86398, 30)]
        self.assertEqual(offsets((5, [], rules), LAST_MOMENT - 2, LAST_MOMENT - 1, LAST_MOMENT), [60, 30, 60])


class TestWhatCounts(unittest.TestCase):
    def test_at_before_and_behind_the_last_change(self):
        spring = moment(2024, 3, 31, 1)
        autumn = moment(2024, 10, 27, 1)
        rules = [SPRING, AUTUMN]
        self.assertEqual(offsets((0, [(spring, 5)], rules), spring, autumn - 1, autumn), [5, 5, 3600])
        self.assertEqual(offsets((0, [(spring + 1, 5)], rules), spring, spring + 1, autumn - 1, autumn),
                         [0, 5, 5, 3600])
        self.assertEqual(offsets((0, [(spring - 1, 5)], rules), spring - 2, spring - 1, spring), [0, 5, 7200])

    def test_none_between_the_changes(self):
        changes = [(moment(2020, 1, 1), 5), (moment(2024, 1, 1), 6)]
        self.assertEqual(offsets((0, changes, [SPRING, AUTUMN]), moment(2019, 7, 1), moment(2021, 7, 1),
                                 moment(2024, 1, 1), moment(2024, 7, 1)), [0, 5, 6, 7200])

    def test_the_first_that_counts_years_on(self):
        spring = moment(2024, 3, 31, 1)
        rules = [SPRING, (2, 1, 0, 0, 60)]
        early = moment(2025, 2, 3)
        self.assertEqual(offsets((0, [(spring, 5)], rules), moment(2024, 12, 31), early - 1, early), [5, 5, 60])

    def test_all_without_changes_or_behind_an_early_one(self):
        for changes in ([], [(-HUGE, 5)]):
            self.assertEqual(offsets((0, changes, [SPRING, AUTUMN]), moment(1, 7, 1), moment(2, 1, 1)), [7200, 3600])


class TestAsThePlainClock(unittest.TestCase):
    def test_many_clocks(self):
        source = random.Random(4)
        for turn in range(25):
            clock = random_clock(source)
            plain = PlainClock(*clock)
            moments = [t for t in interesting_moments(source, clock) if FIRST_MOMENT <= t <= LAST_MOMENT]
            with self.subTest(turn=turn, clock=clock):
                self.assertEqual(offsets(clock, *moments), [plain.offset(t) for t in moments])


def random_clock(source):
    start = source.choice((FIRST_MOMENT - 10, 0, source.randint(FIRST_MOMENT, LAST_MOMENT)))
    changes = []
    for _ in range(source.choice((0, 1, 5))):
        start += source.choice((1, 1000, 10 ** 7))
        changes.append((start, source.randint(-86399, 86399)))
    rules = []
    if source.random() < 0.9:
        months = source.sample(range(1, 13), 2)
        rules = [(m, source.randint(1, 5), source.randint(0, 6), source.randint(0, 86399),
                  source.randint(-86399, 86399)) for m in months]
    return source.randint(-86399, 86399), changes, rules


def interesting_moments(source, clock):
    _, changes, rules = clock
    centres = [t for t, _ in changes] + [source.randint(FIRST_MOMENT, LAST_MOMENT) for _ in range(40)]
    centres += [FIRST_MOMENT, LAST_MOMENT]
    for rule in rules:
        years = [1, 2, 9998, 9999] + [source.randint(1, 9999) for _ in range(15)]
        centres += [rule_moment(rule, y) for y in years]
    return [t + by for t in centres for by in (-1, 0, 1)]
