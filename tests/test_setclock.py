import unittest

from tests.helper import AUTUMN, HUGE, OFFSET, SETCLOCK, SPRING, ask, ask_one, clock_call, rule_moment

RULE_NUMBERS = ("m", "k", "w", "s", "o")
RULE_BOUNDS = ((1, 12), (1, 5), (0, 6), (0, 86399), (-86399, 86399))


def many_changes(count):
    return [(1000 * at, at) for at in range(count)]


class TestNumbers(unittest.TestCase):
    def test_a_clock_answers_its_changes(self):
        self.assertEqual(ask_one(*clock_call(0)), [0])
        self.assertEqual(ask_one(*clock_call(3600, [(0, 7200)])), [1])
        self.assertEqual(ask_one(*clock_call(3600, [(0, 7200), (5, 0)], [SPRING, AUTUMN])), [2])

    def test_none_at_all_and_too_few(self):
        whole = clock_call(3600, [(0, 7200), (5, 0)], [SPRING, AUTUMN])
        self.assertEqual(ask_one(*whole), [2])
        for length in range(1, len(whole)):
            with self.subTest(numbers=length - 1):
                self.assertEqual(ask_one(*whole[:length]), [-5])

    def test_too_many(self):
        for whole in (clock_call(0), clock_call(3600, [(0, 7200)]), clock_call(3600, [(0, 1)], [SPRING, AUTUMN])):
            self.assertEqual(ask_one(*whole, 0), [-5])
            self.assertEqual(ask_one(*whole, *SPRING), [-5])
        self.assertEqual(ask_one(SETCLOCK, *[0] * 400), [-5])

    def test_how_many_changes(self):
        self.assertEqual(ask_one(*clock_call(0, many_changes(64))), [64])
        self.assertEqual(ask_one(*clock_call(0, many_changes(64), [SPRING, AUTUMN])), [64])
        self.assertEqual(ask_one(*clock_call(0, many_changes(65))), [-5])
        for count in (-1, -2, -HUGE, HUGE):
            self.assertEqual(ask_one(SETCLOCK, 0, count, 0), [-5])
        self.assertEqual(ask_one(SETCLOCK, 0, -1), [-5])

    def test_how_many_rules(self):
        third = (6, 1, 0, 0, 0)
        self.assertEqual(ask_one(*clock_call(0, [], [SPRING])), [-5])
        self.assertEqual(ask_one(*clock_call(0, [], [SPRING, AUTUMN])), [0])
        self.assertEqual(ask_one(*clock_call(0, [], [SPRING, AUTUMN, third])), [-5])
        for count in (-1, -2, HUGE, -HUGE):
            self.assertEqual(ask_one(SETCLOCK, 0, 0, count), [-5])


class TestBounds(unittest.TestCase):
    def test_changes_at_any_moments(self):
        changes = [(-HUGE, 1), (-62135596801, 2), (253402300800, 3), (HUGE, 4)]
        self.assertEqual(ask(clock_call(0, changes), (OFFSET, 0), (OFFSET, 253402300799)), [[4], [0, 2], [0, 2]])

    def test_changes_rise_strictly(self):
        self.assertEqual(ask_one(*clock_call(0, [(5, 1), (6, 2), (7, 3)])), [3])
        self.assertEqual(ask_one(*clock_call(0, [(5, 1), (5, 2)])), [-5])
        self.assertEqual(ask_one(*clock_call(0, [(5, 1), (5, 1)])), [-5])
        self.assertEqual(ask_one(*clock_call(0, [(5, 1), (4, 2)])), [-5])
        self.assertEqual(ask_one(*clock_call(0, [(5, 1), (7, 2), (6, 3)])), [-5])
        self.assertEqual(ask_one(*clock_call(0, [(-5, 1), (-6, 3)])), [-5])

    def test_offsets(self):
        for o in (-86399, 86399):
            self.assertEqual(ask(clock_call(o), (OFFSET, 0)), [[0], [0, o]])
            self.assertEqual(ask(clock_call(0, [(0, o)]), (OFFSET, 0)), [[1], [0, o]])
        for o in (-86400, 86400, HUGE, -HUGE):
            with self.subTest(o=o):
                self.assertEqual(ask_one(*clock_call(o)), [-5])
                self.assertEqual(ask_one(*clock_call(0, [(0, o)])), [-5])
                self.assertEqual(ask_one(*clock_call(0, [(0, 0), (1, o)])), [-5])
                self.assertEqual(ask_one(*clock_call(0, [(0, o), (1, 0)])), [-5])

    def test_each_number_of_a_rule(self):
        plain = (6, 2, 3, 100, 50)
        for at, (low, high) in enumerate(RULE_BOUNDS):
            for value, answer in ((low, [0]), (high, [0]), (low - 1, [-5]), (high + 1, [-5]),
                                  (HUGE, [-5]), (-HUGE, [-5])):
                rule = plain[:at] + (value,) + plain[at + 1:]
                other = (1, 1, 0, 0, 0)
                with self.subTest(number=RULE_NUMBERS[at], value=value):
                    self.assertEqual(ask_one(*clock_call(0, [], [rule, other])), answer)
                    self.assertEqual(ask_one(*clock_call(0, [], [other, rule])), answer)


class TestTwoRulesAtOneMoment(unittest.TestCase):
    def test_in_every_year(self):
        for k in range(1, 6):
            for o in (0, 3600):
                rules = [(3, k, 6, 3600, 0), (3, k, 6, 3600, o)]
                self.assertEqual(ask_one(*clock_call(0, [], rules)), [-5])

    def test_in_some_years(self):
        for m in range(1, 13):
            for w in range(7):
                fourth, last = (m, 4, w, 0, 3600), (m, 5, w, 0, 0)
                with self.subTest(m=m, w=w):
                    self.assertEqual(ask_one(*clock_call(0, [], [fourth, last])), [-5])
                    self.assertEqual(ask_one(*clock_call(0, [], [last, fourth])), [-5])

    def test_also_if_none_of_their_moments_counts(self):
        rules = [(3, 4, 6, 3600, 0), (3, 5, 6, 3600, 60)]
        self.assertEqual(ask_one(*clock_call(0, [(HUGE, 0)], rules)), [-5])

    def test_never(self):
        base = (3, 4, 6, 3600, 0)
        for other in ((4, 4, 6, 3600, 0), (3, 3, 6, 3600, 0), (3, 1, 6, 3600, 0), (3, 4, 5, 3600, 0),
                      (3, 4, 6, 3599, 0), (3, 5, 6, 3601, 0), (3, 5, 5, 3600, 0), (2, 5, 6, 3600, 0)):
            with self.subTest(other=other):
                self.assertEqual(ask_one(*clock_call(0, [], [base, other])), [0])
                self.assertEqual(ask_one(*clock_call(0, [], [other, base])), [0])

    def test_as_the_years_tell(self):
        for m in (2, 7, 11):
            for one in range(1, 6):
                for other in range(1, 6):
                    rules = [(m, one, 2, 7, 0), (m, other, 2, 7, 60)]
                    meet = any(rule_moment(rules[0], y) == rule_moment(rules[1], y) for y in range(1, 401))
                    with self.subTest(m=m, one=one, other=other):
                        self.assertEqual(ask_one(*clock_call(0, [], rules)), [-5] if meet else [0])


class TestTheClockFromNowOn(unittest.TestCase):
    def test_a_new_object_has_offset_0(self):
        self.assertEqual(ask((OFFSET, 0), (OFFSET, -62135596800), (OFFSET, 253402300799)), [[0, 0]] * 3)

    def test_the_last_one_set_holds(self):
        self.assertEqual(ask(clock_call(60, [(0, 120)], [SPRING, AUTUMN]), (OFFSET, 10 ** 9), clock_call(180),
                             (OFFSET, 10 ** 9)), [[1], [0, 7200], [0], [0, 180]])

    def test_as_it_was_behind_a_refusal(self):
        wrong = [(SETCLOCK,), (SETCLOCK, 7), clock_call(86400), clock_call(7, [(5, 1), (5, 2)]), (*clock_call(7), 0),
                 clock_call(7, [], [SPRING, SPRING]), clock_call(7, [], [SPRING]), clock_call(7, [(0, 86400)]),
                 clock_call(7, [(-5, 9)], [SPRING, (10, 6, 6, 3600, 0)])]
        for call in wrong:
            with self.subTest(call=call):
                self.assertEqual(ask(call, (OFFSET, 3)), [[-5], [0, 0]])
                self.assertEqual(ask(clock_call(60, [(0, 120)]), call, (OFFSET, -1), (OFFSET, 3)),
                                 [[1], [-5], [0, 60], [0, 120]])
