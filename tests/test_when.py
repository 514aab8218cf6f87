import random
import unittest

from tests.helper import (AUTUMN, FIRST_MOMENT, HUGE, LAST_MOMENT, READ, SPRING, WHEN, PlainClock, ask, ask_one,
                          clock_call, moment, reading, rule_moment)

FIRST_READING = (1, 1, 1, 0, 0, 0)
LAST_READING = (9999, 12, 31, 23, 59, 59)


def when(clock, *numbers):
    return ask(clock_call(*clock), (WHEN, *numbers))[1]


class TestNoReading(unittest.TestCase):
    def test_each_number_out_of_its_bounds(self):
        plain = (2024, 5, 15, 12, 30, 30)
        self.assertEqual(ask_one(WHEN, *plain), [1, moment(*plain)])
        for at, values in enumerate(((0, 10000), (0, 13), (0, 32), (-1, 24), (-1, 60), (-1, 60))):
            for value in (*values, HUGE, -HUGE):
                numbers = plain[:at] + (value,) + plain[at + 1:]
                with self.subTest(numbers=numbers):
                    self.assertEqual(ask_one(WHEN, *numbers), [-1])

    def test_a_day_that_there_is_not(self):
        for y, m, d in ((2023, 2, 29), (1900, 2, 29), (2024, 2, 30), (2024, 4, 31), (2024, 11, 31)):
            self.assertEqual(ask_one(WHEN, y, m, d, 0, 0, 0), [-1])

    def test_bounds_that_are_there(self):
        self.assertEqual(ask_one(WHEN, 2024, 2, 29, 0, 0, 0), [1, moment(2024, 2, 29)])
        self.assertEqual(ask_one(WHEN, 2024, 2, 29, 23, 59, 59), [1, moment(2024, 2, 29, 23, 59, 59)])


class TestHowMany(unittest.TestCase):
    def test_by_offset_0(self):
        self.assertEqual(ask_one(WHEN, 1970, 1, 1, 0, 0, 0), [1, 0])
        self.assertEqual(ask_one(WHEN, *FIRST_READING), [1, FIRST_MOMENT])
        self.assertEqual(ask_one(WHEN, *LAST_READING), [1, LAST_MOMENT])

    def test_none_and_one_and_two_by_rules(self):
        clock = (0, [], [SPRING, AUTUMN])
        spring = moment(2024, 3, 31, 1)
        autumn = moment(2024, 10, 27, 1)
        self.assertEqual(when(clock, 2024, 3, 31, 1, 59, 59), [1, spring - 1])
        self.assertEqual(when(clock, 2024, 3, 31, 2, 0, 0), [0])
        self.assertEqual(when(clock, 2024, 3, 31, 2, 59, 59), [0])
        self.assertEqual(when(clock, 2024, 3, 31, 3, 0, 0), [1, spring])
        self.assertEqual(when(clock, 2024, 10, 27, 1, 59, 59), [1, autumn - 3601])
        self.assertEqual(when(clock, 2024, 10, 27, 2, 0, 0), [2, autumn - 3600, autumn])
        self.assertEqual(when(clock, 2024, 10, 27, 2, 59, 59), [2, autumn - 1, autumn + 3599])
        self.assertEqual(when(clock, 2024, 10, 27, 3, 0, 0), [1, autumn + 3600])
        self.assertEqual(when(clock, 2024, 7, 1, 12, 0, 0), [1, moment(2024, 7, 1, 10)])

    def test_by_changes(self):
        clock = (0, [(1000, -100), (2000, 100)])
        self.assertEqual(when(clock, *reading(899)), [1, 899])
        self.assertEqual(when(clock, *reading(900)), [2, 900, 1000])
        self.assertEqual(when(clock, *reading(999)), [2, 999, 1099])
        self.assertEqual(when(clock, *reading(1000)), [1, 1100])
        self.assertEqual(when(clock, *reading(1899)), [1, 1999])
        self.assertEqual(when(clock, *reading(1900)), [0])
        self.assertEqual(when(clock, *reading(2099)), [0])
        self.assertEqual(when(clock, *reading(2100)), [1, 2000])

    def test_65_of_them(self):
        changes = [(1000 * at, -1000 * at) for at in range(1, 65)]
        self.assertEqual(when((0, changes), *reading(500)), [65] + [1000 * at + 500 for at in range(65)])

    def test_67_of_them_with_rules(self):
        late, later = (6, 1, 0, 7200, -7200), (6, 1, 0, 8000, -8000)
        day = moment(2024, 6, 3)
        changes = [(day + 100 * at, -100 * at) for at in range(1, 65)]
        found = when((0, changes, [late, later]), *reading(day + 50))
        moments = [day + 100 * at + 50 for at in range(65)] + [day + 7250, day + 8050]
        self.assertEqual(found, [67] + moments)

    def test_one_offset_told_more_than_once(self):
        clock = (3600, [(0, 3600), (100, 7200), (200, 3600)], [(1, 1, 0, 0, 3600), (6, 1, 0, 0, 3600)])
        self.assertEqual(when(clock, *reading(3650)), [1, 50])
        self.assertEqual(when(clock, *reading(3750)), [0])
        self.assertEqual(when(clock, *reading(7350)), [2, 150, 3750])

    def test_rising_whatever_the_order_of_the_offsets(self):
        clock = (-50, [(-100, 100), (1000, 0), (1100, -86399)])
        self.assertEqual(when(clock, *reading(1050)), [3, 950, 1050, 87449])


class TestEndsOfTheCalendar(unittest.TestCase):
    def test_moments_that_are_not_there(self):
        self.assertEqual(when((1,), *FIRST_READING), [0])
        self.assertEqual(when((1,), 1, 1, 1, 0, 0, 1), [1, FIRST_MOMENT])
        self.assertEqual(when((-1,), *LAST_READING), [0])
        self.assertEqual(when((-1,), 9999, 12, 31, 23, 59, 58), [1, LAST_MOMENT])
        self.assertEqual(when((86399,), 1, 1, 1, 23, 59, 58), [0])
        self.assertEqual(when((86399,), 1, 1, 1, 23, 59, 59), [1, FIRST_MOMENT])
        self.assertEqual(when((-86399,), 9999, 12, 31, 0, 0, 1), [0])
        self.assertEqual(when((-86399,), 9999, 12, 31, 0, 0, 0), [1, LAST_MOMENT])

    def test_readings_of_moments_within(self):
        self.assertEqual(when((-1,), *FIRST_READING), [1, FIRST_MOMENT + 1])
        self.assertEqual(when((1,), *LAST_READING), [1, LAST_MOMENT - 1])

    def test_some_there_and_some_not(self):
        clock = (0, [(LAST_MOMENT, -10)])
        self.assertEqual(when(clock, *reading(LAST_MOMENT - 10)), [2, LAST_MOMENT - 10, LAST_MOMENT])
        self.assertEqual(when(clock, *reading(LAST_MOMENT - 9)), [1, LAST_MOMENT - 9])
        self.assertEqual(when(clock, *LAST_READING), [0])


class TestThereAndBack(unittest.TestCase):
    """T2."""

    def test_each_moment_reads_back_and_no_other(self):
        changes = [(-40, 25), (-20, -30), (0, 10), (15, -5), (30, 60)]
        set_it = clock_call(5, changes)
        span = range(-199, 200)
        readings = [answer[1:] for answer in ask(set_it, *[(READ, t) for t in span])[1:]]
        for shown in range(-100, 100):
            wanted = [t for t, read in zip(span, readings) if read == reading(shown)]
            with self.subTest(shown=shown):
                self.assertEqual(ask(set_it, (WHEN, *reading(shown)))[1], [len(wanted)] + wanted)

    def test_each_reading_has_its_moment(self):
        source = random.Random(6)
        set_it = clock_call(-7000, [(-10 ** 9, 3000), (0, -80000)], [SPRING, AUTUMN])
        moments = [source.randint(FIRST_MOMENT + 86400, LAST_MOMENT - 86400) for _ in range(300)]
        moments += [rule_moment(rule, y) + by for rule in (SPRING, AUTUMN) for y in (1970, 2024, 9999)
                    for by in (-3600, -1, 0, 3599)]
        read = ask(set_it, *[(READ, t) for t in moments])[1:]
        found = ask(set_it, *[(WHEN, *answer[1:]) for answer in read])[1:]
        for t, answer in zip(moments, found):
            self.assertIn(t, answer[1:])
            self.assertEqual(answer[0], len(answer) - 1)

    def test_as_the_plain_clock(self):
        source = random.Random(7)
        for turn in range(15):
            first, *offsets = [source.randint(-86399, 86399) for _ in range(9)]
            start = source.choice((FIRST_MOMENT, LAST_MOMENT - 300000, moment(2024, 1, 1), moment(2024, 6, 1)))
            changes = [(start + 40000 * at, o) for at, o in enumerate(offsets[:6])]
            rules = [(1, 1, 2, 0, offsets[6]), (6, 2, 2, 86399, offsets[7])]
            plain = PlainClock(first, changes, rules)
            shown = [start + source.randint(-10 ** 5, 10 ** 6) for _ in range(300)]
            shown += [rule_moment(rule, y) + source.randint(-90000, 90000) for rule in rules for y in range(2020, 2030)]
            shown = [t for t in shown if FIRST_MOMENT <= t <= LAST_MOMENT]
            found = ask(clock_call(first, changes, rules), *[(WHEN, *reading(t)) for t in shown])[1:]
            with self.subTest(turn=turn):
                self.assertEqual(found, [[len(plain.when(t)), *plain.when(t)] for t in shown])
