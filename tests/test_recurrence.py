import random
import unittest

from tests.helper import (COUNT, FIRST_DAY, ISONE, LAST_DAY, NTH, day, in_lines, random_recurrence, recur_call, recurs)

STRETCH = 1200


class TestOneAndTheSameDays(unittest.TestCase):
    """T4, and each of the three against the document's words taken one by one."""

    def hold_together(self, recurrence, low, high, source):
        call = recur_call(*recurrence)
        span = range(low, high + 1)
        wanted = [n for n in span if recurs(n, *recurrence)]
        told = in_lines([(ISONE, n) for n in span], call)
        self.assertEqual([n for n, answer in zip(span, told) if answer == [1]], wanted)
        self.assertEqual([answer for answer in told if answer not in ([0], [1])], [])

        ends = [(low, high)] + [(source.choice(span), source.choice(span)) for _ in range(60)]
        counted = in_lines([(COUNT, a, b) for a, b in ends], call)
        self.assertEqual(counted, [[sum(a <= n <= b for n in wanted)] for a, b in ends])

        starts = [low] * 2 + [source.choice(span) for _ in range(3)]
        for a in starts:
            behind = [n for n in wanted if n >= a]
            nth = in_lines([(NTH, a, k) for k in range(len(behind))], call)
            self.assertEqual(nth, [[0, n] for n in behind])

    def test_many_recurrences(self):
        source = random.Random(10)
        for turn in range(120):
            low = source.choice((day(2023, 1, 1), day(1899, 3, 1), source.randint(FIRST_DAY, LAST_DAY - STRETCH)))
            recurrence = random_recurrence(source, low)
            with self.subTest(turn=turn, recurrence=recurrence):
                self.hold_together(recurrence, low, low + STRETCH - 1, source)

    def test_at_both_ends_of_the_calendar(self):
        source = random.Random(11)
        for turn in range(30):
            for low in (FIRST_DAY, LAST_DAY - STRETCH + 1):
                recurrence = random_recurrence(source, low)
                with self.subTest(turn=turn, recurrence=recurrence):
                    self.hold_together(recurrence, low, low + STRETCH - 1, source)

    def test_far_behind_from(self):
        source = random.Random(12)
        for turn in range(60):
            first = source.randint(FIRST_DAY, 0)
            by, every, first, _, days, months, pairs = random_recurrence(source, first)
            low = source.randint(first, LAST_DAY - STRETCH)
            with self.subTest(turn=turn):
                self.hold_together((by, every, first, None, days, months, pairs), low, low + STRETCH - 1, source)
