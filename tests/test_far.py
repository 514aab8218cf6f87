import random
import unittest

from tests.helper import ADD, FAR, FIRST_DAY, HUGE, LAST_DAY, ask, ask_one, day, in_lines


def far(a, b):
    return ask_one(FAR, day(*a), day(*b))


class TestFar(unittest.TestCase):
    def test_the_same_day_and_the_next(self):
        for n in (FIRST_DAY, 0, day(2024, 2, 29), LAST_DAY):
            self.assertEqual(ask_one(FAR, n, n), [0, 0, 0])
        for n in (FIRST_DAY, 0, day(2024, 2, 28), day(2024, 2, 29), day(2024, 12, 31), LAST_DAY - 1):
            self.assertEqual(ask_one(FAR, n, n + 1), [0, 0, 1])

    def test_ordinary_days(self):
        self.assertEqual(far((2024, 5, 15), (2024, 6, 14)), [0, 0, 30])
        self.assertEqual(far((2024, 5, 15), (2024, 6, 15)), [0, 1, 0])
        self.assertEqual(far((2024, 5, 15), (2024, 6, 16)), [0, 1, 1])
        self.assertEqual(far((2024, 5, 15), (2025, 5, 14)), [0, 11, 29])
        self.assertEqual(far((2024, 5, 15), (2025, 5, 15)), [0, 12, 0])
        self.assertEqual(far((1969, 12, 31), (1970, 1, 1)), [0, 0, 1])

    def test_from_a_months_last_day(self):
        self.assertEqual(far((2024, 1, 31), (2024, 2, 28)), [0, 0, 28])
        self.assertEqual(far((2024, 1, 31), (2024, 2, 29)), [0, 1, 0])
        self.assertEqual(far((2024, 1, 31), (2024, 3, 1)), [0, 1, 1])
        self.assertEqual(far((2024, 1, 31), (2024, 3, 30)), [0, 1, 30])
        self.assertEqual(far((2024, 1, 31), (2024, 3, 31)), [0, 2, 0])
        self.assertEqual(far((2023, 1, 31), (2023, 2, 28)), [0, 1, 0])
        self.assertEqual(far((2024, 3, 31), (2024, 4, 30)), [0, 1, 0])
        self.assertEqual(far((2024, 4, 30), (2024, 5, 30)), [0, 1, 0])
        self.assertEqual(far((2024, 4, 30), (2024, 5, 31)), [0, 1, 1])
        self.assertEqual(far((2023, 2, 28), (2023, 3, 27)), [0, 0, 27])
        self.assertEqual(far((2023, 2, 28), (2023, 3, 31)), [0, 1, 3])

    def test_day_29_of_month_2(self):
        self.assertEqual(far((2024, 2, 29), (2025, 2, 27)), [0, 11, 29])
        self.assertEqual(far((2024, 2, 29), (2025, 2, 28)), [0, 12, 0])
        self.assertEqual(far((2024, 2, 29), (2025, 3, 1)), [0, 12, 1])
        self.assertEqual(far((2024, 2, 29), (2028, 2, 28)), [0, 47, 30])
        self.assertEqual(far((2024, 2, 29), (2028, 2, 29)), [0, 48, 0])
        self.assertEqual(far((2023, 12, 29), (2024, 2, 29)), [0, 2, 0])

    def test_over_the_whole_calendar(self):
        self.assertEqual(ask_one(FAR, FIRST_DAY, LAST_DAY), [0, 119987, 30])
        self.assertEqual(ask_one(ADD, FIRST_DAY, 119987, 30, 0), [0, LAST_DAY])

    def test_refusals(self):
        self.assertEqual(ask((FAR, 1, 0), (FAR, LAST_DAY, FIRST_DAY), (FAR, 0, -1)), [[-1]] * 3)
        for n in (FIRST_DAY - 1, LAST_DAY + 1, HUGE, -HUGE):
            self.assertEqual(ask((FAR, n, 0), (FAR, 0, n), (FAR, n, n)), [[-1]] * 3)
        self.assertEqual(ask((FAR, FIRST_DAY - 1, FIRST_DAY), (FAR, LAST_DAY, LAST_DAY + 1)), [[-1]] * 2)


class TestThereAndBack(unittest.TestCase):
    """T3."""

    def leads_there(self, ways):
        spans = in_lines([(FAR, *way) for way in ways])
        self.assertTrue(all(len(span) == 3 and span[0] == 0 and span[1] >= 0 and span[2] >= 0 for span in spans))
        there = in_lines([(ADD, a, span[1], span[2], 0) for (a, _), span in zip(ways, spans)])
        self.assertEqual(there, [[0, b] for _, b in ways])
        further = in_lines([(ADD, a, span[1] + 1, 0, 0) for (a, _), span in zip(ways, spans)])
        for (a, b), answer in zip(ways, further):
            self.assertTrue(answer == [-4] or answer[1] > b, (a, b, answer))

    def test_between_many_days(self):
        source = random.Random(9)
        ways = [sorted(source.randint(FIRST_DAY, LAST_DAY) for _ in range(2)) for _ in range(2000)]
        ways += [[a, a + source.randint(0, 800)] for a in [source.randint(-2000, 2000) for _ in range(2000)]]
        self.leads_there(ways)

    def test_from_the_last_days_of_months(self):
        for a in ((2023, 1, 28), (2023, 1, 29), (2023, 1, 30), (2023, 1, 31), (2024, 1, 31), (2024, 2, 29)):
            self.leads_there([[day(*a), day(*a) + by] for by in range(500)])

    def test_to_the_end_of_the_calendar(self):
        self.leads_there([[a, b] for a in range(LAST_DAY - 65, LAST_DAY + 1) for b in range(a, LAST_DAY + 1)])
        self.leads_there([[FIRST_DAY, LAST_DAY - by] for by in range(65)])
