import unittest

from calendarclocks.times import answers

from tests.helper import AUTUMN, DATE, DAY, OFFSET, READ, SETCLOCK, SPRING, WHEN, ask, calls_list, clock_call

SEVERAL = [DAY, 3, 2024, 2, 29, 0,
           DATE, 1, 19782, 0,
           READ, 1, 0, 0,
           SETCLOCK, 5, 60, 1, 100, 120, 0, 0,
           OFFSET, 1, 99, 0,
           READ, 1, 100, 0,
           SETCLOCK, 0, 0,
           WHEN, 6, 1970, 1, 1, 0, 3, 40, 0,
           DAY, 3, 2023, 2, 29, 0,
           WHEN, 6, 1970, 1, 1, 0, 3, 0, 0]

SEVERAL_TOLD = [2, 0, 19782,
                7, 0, 2024, 2, 29, 3, 2024, 9,
                7, 0, 1970, 1, 1, 0, 0, 0,
                1, 1,
                2, 0, 60,
                7, 0, 1970, 1, 1, 0, 3, 40,
                1, -5,
                2, 1, 100,
                1, -1,
                1, 0]


class TestAnswers(unittest.TestCase):
    def test_several_calls(self):
        self.assertEqual(answers(list(SEVERAL)), SEVERAL_TOLD)

    def test_the_list_stays_as_it_was(self):
        handed = list(SEVERAL)
        answers(handed)
        self.assertEqual(handed, SEVERAL)

    def test_a_second_time_is_as_the_first(self):
        handed = list(SEVERAL)
        first = answers(handed)
        second = answers(handed)
        self.assertEqual(first, second)
        first.append(5)
        self.assertEqual(answers(handed), second)

    def test_no_clock_is_kept_for_the_next_list(self):
        self.assertEqual(ask(clock_call(60, [(0, 120)]), (OFFSET, 0)), [[1], [0, 120]])
        self.assertEqual(ask((OFFSET, 0)), [[0, 0]])

    def test_a_clock_holds_over_other_calls(self):
        self.assertEqual(ask(clock_call(60), (DAY, 1970, 1, 1), (DATE, 0), (WHEN, 1970, 1, 1, 0, 1, 0), (OFFSET, 5)),
                         [[0], [0, 0], [0, 1970, 1, 1, 3, 1970, 1], [1, 0], [0, 60]])

    def test_400_calls(self):
        self.assertEqual(ask(*[(DAY, 1970, 1, 1)] * 399, (DATE, 0)), [[0, 0]] * 399 + [[0, 1970, 1, 1, 3, 1970, 1]])

    def test_400_calls_by_the_longest_clock(self):
        changes = [(1000 * at, -1000 * at) for at in range(1, 65)]
        call = clock_call(0, changes, [SPRING, AUTUMN])
        found = ask(call, *[(WHEN, 1970, 1, 1, 0, 0, 0)] * 399)
        self.assertEqual(found, [[64]] + [[65] + [1000 * at for at in range(65)]] * 399)

    def test_whole_numbers_alone(self):
        told = answers(calls_list([(DAY, 2024, 2, 29), clock_call(60), (READ, 0), (WHEN, 2024, 2, 29, 0, 0, 0),
                                   (DATE, 10 ** 20)]))
        self.assertIs(type(told), list)
        self.assertEqual({type(number) for number in told}, {int})
