import unittest

from calendarclocks.times import UnknownCall, answers

from tests.helper import (ADD, AUTUMN, BY_DAY, BY_MONTH, BY_WEEK, COUNT, DATE, DAY, FAR, ISONE, NTH, OFFSET, READ,
                          SETCLOCK, SETRECUR, SPRING, WHEN, ask, calls_list, clock_call, recur_call)

SEVERAL = [DAY, 3, 2024, 2, 29, 0,
           DATE, 1, 19782, 0,
           READ, 1, 0, 0,
           SETCLOCK, 5, 60, 1, 100, 120, 0, 0,
           OFFSET, 1, 99, 0,
           READ, 1, 100, 0,
           SETCLOCK, 0, 0,
           WHEN, 6, 1970, 1, 1, 0, 3, 40, 0,
           DAY, 3, 2023, 2, 29, 0,
           WHEN, 6, 1970, 1, 1, 0, 3, 0, 0,
           ISONE, 1, 0, 0,
           COUNT, 2, 0, 9, 0,
           NTH, 2, 0, 0, 0,
           SETRECUR, 9, 2, 1, 0, 0, 0, 1, 31, 0, 0, 0,
           ADD, 4, 30, 1, 0, 0, 0,
           ISONE, 1, 30, 0,
           ISONE, 1, 31, 0,
           FAR, 2, 30, 59, 0,
           COUNT, 2, 0, 364, 0,
           SETRECUR, 0, 0,
           NTH, 2, 31, 0, 0,
           NTH, 2, 31, -1, 0,
           COUNT, 2, 0, 100000, 0,
           ADD, 4, 30, 1, 0, 2, 0,
           FAR, 2, 1, 0, 0,
           OFFSET, 1, 100, 0]

SEVERAL_TOLD = [2, 0, 19782,
                7, 0, 2024, 2, 29, 3, 2024, 9,
                7, 0, 1970, 1, 1, 0, 0, 0,
                1, 1,
                2, 0, 60,
                7, 0, 1970, 1, 1, 0, 3, 40,
                1, -5,
                2, 1, 100,
                1, -1,
                1, 0,
                1, -3,
                1, -3,
                1, -3,
                1, 0,
                2, 0, 58,
                1, 1,
                1, 0,
                3, 0, 1, 1,
                1, 7,
                1, -5,
                2, 0, 89,
                1, -1,
                1, -2,
                1, -4,
                1, -1,
                2, 0, 120]


class TestAnswers(unittest.TestCase):
    def test_several_calls(self):
        self.assertEqual(answers(list(SEVERAL)), SEVERAL_TOLD)

    def test_the_list_stays_as_it_was(self):
        handed = list(SEVERAL)
        answers(handed)
        self.assertEqual(handed, SEVERAL)

    def test_a_second_time_is_as_the_first(self):
        handed = list(SEVERAL)
        first = answers(handed)
        second = answers(handed)
        self.assertEqual(first, second)
        first.append(5)
        self.assertEqual(answers(handed), second)

    def test_no_clock_is_kept_for_the_next_list(self):
        self.assertEqual(ask(clock_call(60, [(0, 120)]), (OFFSET, 0)), [[1], [0, 120]])
        self.assertEqual(ask((OFFSET, 0)), [[0, 0]])

    def test_a_clock_holds_over_other_calls(self):
        self.assertEqual(ask(clock_call(60), (DAY, 1970, 1, 1), (DATE, 0), (WHEN, 1970, 1, 1, 0, 1, 0), (OFFSET, 5)),
                         [[0], [0, 0], [0, 1970, 1, 1, 3, 1970, 1], [1, 0], [0, 60]])

    def test_no_recurrence_is_kept_for_the_next_list(self):
        self.assertEqual(ask(recur_call(BY_DAY, 1, 0), (ISONE, 0)), [[0], [1]])
        self.assertEqual(ask((ISONE, 0), (COUNT, 0, 0), (NTH, 0, 0)), [[-3]] * 3)

    def test_clock_and_recurrence_do_not_touch_one_another(self):
        asked = [(OFFSET, 0), (ISONE, 5), (COUNT, 0, 9), (NTH, 6, 0)]
        told = [[0, 60], [1], [1], [0, 10]]
        self.assertEqual(ask(clock_call(60), recur_call(BY_DAY, 5, 5), *asked), [[0], [0]] + told)
        self.assertEqual(ask(recur_call(BY_DAY, 5, 5), clock_call(60), *asked), [[0], [0]] + told)
        self.assertEqual(ask(clock_call(60), recur_call(BY_DAY, 5, 5), (SETCLOCK,), (SETRECUR,), *asked),
                         [[0], [0], [-5], [-5]] + told)
        self.assertEqual(ask(clock_call(60), (ISONE, 0), (OFFSET, 0)), [[0], [-3], [0, 60]])
        self.assertEqual(ask(recur_call(BY_DAY, 5, 5), (OFFSET, 0)), [[0], [0, 0]])

    def test_a_recurrence_holds_over_other_calls(self):
        self.assertEqual(ask(recur_call(BY_WEEK, 1, 0, None, [3]), (DAY, 1970, 1, 1), (ADD, 0, 1, 0, 0), (FAR, 0, 31),
                             (WHEN, 1970, 1, 1, 0, 0, 0), (NTH, 1, 0), (ISONE, 7)),
                         [[0], [0, 0], [0, 31], [0, 1, 0], [1, 0], [0, 7], [1]])

    def test_the_longest_list(self):
        # 400 calls, 22 of them with 600 numbers: as many as fit into 15000.
        setting = recur_call(BY_MONTH, 1, 0, None, [1])
        handed = calls_list([setting] + [(SETRECUR, *[1] * 600)] * 22 + [(ISONE, n) for n in range(377)])
        self.assertTrue(14700 < len(handed) <= 15000)
        kept = list(handed)
        firsts = [0, 31, 59, 90, 120, 151, 181, 212, 243, 273, 304, 334, 365]
        wanted = [1, 0] + [1, -5] * 22
        for n in range(377):
            wanted += [1, 1 if n in firsts else 0]
        self.assertEqual(answers(handed), wanted)
        self.assertEqual(handed, kept)

    def test_400_calls(self):
        self.assertEqual(ask(*[(DAY, 1970, 1, 1)] * 399, (DATE, 0)), [[0, 0]] * 399 + [[0, 1970, 1, 1, 3, 1970, 1]])

    def test_400_calls_by_the_longest_clock(self):
        changes = [(1000 * at, -1000 * at) for at in range(1, 65)]
        call = clock_call(0, changes, [SPRING, AUTUMN])
        found = ask(call, *[(WHEN, 1970, 1, 1, 0, 0, 0)] * 399)
        self.assertEqual(found, [[64]] + [[65] + [1000 * at for at in range(65)]] * 399)

    def test_whole_numbers_alone(self):
        told = answers(calls_list([(DAY, 2024, 2, 29), clock_call(60), (READ, 0), (WHEN, 2024, 2, 29, 0, 0, 0),
                                   (DATE, 10 ** 20), recur_call(BY_DAY, 1, 0), (ISONE, 0), (ISONE, -1),
                                   (COUNT, 0, 5), (NTH, 0, 5), (ADD, 0, 1, 1, 0), (FAR, 0, 40)]))
        self.assertIs(type(told), list)
        self.assertEqual({type(number) for number in told}, {int})

    def test_no_such_call(self):
        for call in (0, 13, -1):
            with self.assertRaises(UnknownCall):
                answers([call, 0, 0])
