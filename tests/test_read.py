import random
import unittest

from tests.helper import (AUTUMN, FIRST_MOMENT, HUGE, LAST_MOMENT, READ, SPRING, ask, ask_one, clock_call, moment,
                          reading)


class TestRead(unittest.TestCase):
    def test_by_offset_0(self):
        self.assertEqual(ask_one(READ, 0), [0, 1970, 1, 1, 0, 0, 0])
        self.assertEqual(ask_one(READ, -1), [0, 1969, 12, 31, 23, 59, 59])
        self.assertEqual(ask_one(READ, 3661), [0, 1970, 1, 1, 1, 1, 1])
        self.assertEqual(ask_one(READ, moment(2024, 2, 29, 12, 34, 56)), [0, 2024, 2, 29, 12, 34, 56])

    def test_many_moments(self):
        source = random.Random(5)
        moments = [source.randint(FIRST_MOMENT, LAST_MOMENT) for _ in range(399)]
        self.assertEqual(ask(*[(READ, t) for t in moments]), [[0] + reading(t) for t in moments])

    def test_by_other_offsets(self):
        self.assertEqual(ask(clock_call(3600), (READ, -1)), [[0], [0, 1970, 1, 1, 0, 59, 59]])
        self.assertEqual(ask(clock_call(-3600), (READ, 0)), [[0], [0, 1969, 12, 31, 23, 0, 0]])
        self.assertEqual(ask(clock_call(86399), (READ, 1)), [[0], [0, 1970, 1, 2, 0, 0, 0]])
        self.assertEqual(ask(clock_call(-86399), (READ, 0)), [[0], [0, 1969, 12, 31, 0, 0, 1]])

    def test_around_a_change_and_a_rules_moment(self):
        at = moment(2024, 3, 31, 1)
        self.assertEqual(ask(clock_call(0, [(100, 60)], [SPRING, AUTUMN]), (READ, 99), (READ, 100), (READ, at - 1),
                             (READ, at)),
                         [[1], [0, 1970, 1, 1, 0, 1, 39], [0, 1970, 1, 1, 0, 2, 40],
                          [0, 2024, 3, 31, 1, 59, 59], [0, 2024, 3, 31, 3, 0, 0]])

    def test_ends_of_the_moments(self):
        first = [0, 1, 1, 1, 0, 0, 0]
        last = [0, 9999, 12, 31, 23, 59, 59]
        self.assertEqual(ask((READ, FIRST_MOMENT), (READ, LAST_MOMENT)), [first, last])
        self.assertEqual(ask(clock_call(-1), (READ, FIRST_MOMENT), (READ, FIRST_MOMENT + 1), (READ, LAST_MOMENT)),
                         [[0], [-4], first, [0, 9999, 12, 31, 23, 59, 58]])
        self.assertEqual(ask(clock_call(1), (READ, LAST_MOMENT), (READ, LAST_MOMENT - 1), (READ, FIRST_MOMENT)),
                         [[0], [-4], last, [0, 1, 1, 1, 0, 0, 1]])
        self.assertEqual(ask(clock_call(-86399), (READ, FIRST_MOMENT + 86398), (READ, FIRST_MOMENT + 86399)),
                         [[0], [-4], first])
        self.assertEqual(ask(clock_call(86399), (READ, LAST_MOMENT - 86398), (READ, LAST_MOMENT - 86399)),
                         [[0], [-4], last])

    def test_no_moment(self):
        for t in (FIRST_MOMENT - 1, LAST_MOMENT + 1, HUGE, -HUGE):
            self.assertEqual(ask_one(READ, t), [-1])
        # No moment is refused first, also where its reading would be there.
        self.assertEqual(ask(clock_call(1), (READ, FIRST_MOMENT - 1)), [[0], [-1]])
        self.assertEqual(ask(clock_call(-1), (READ, LAST_MOMENT + 1)), [[0], [-1]])
