"""What the tests share: how calls are handed in, and a clock that is slow but plain."""

import bisect
import calendar
import datetime

from calendarclocks.times import answers

DAY, DATE, SETCLOCK, OFFSET, READ, WHEN = 1, 2, 3, 4, 5, 6

FIRST_DAY = -719162
LAST_DAY = 2932896
FIRST_MOMENT = -62135596800
LAST_MOMENT = 253402300799
HUGE = 10 ** 20
EPOCH = datetime.date(1970, 1, 1)

# The last Sunday of month 3 and of month 10, at one o'clock.
SPRING = (3, 5, 6, 3600, 7200)
AUTUMN = (10, 5, 6, 3600, 3600)


def calls_list(calls):
    """Calls, each a tuple of its number and its numbers, in the interface's form."""
    handed = []
    for call in calls:
        handed += [call[0], len(call) - 1, *call[1:], 0]
    return handed


def split_answers(told):
    found = []
    at = 0
    while at < len(told):
        found.append(told[at + 1:at + 1 + told[at]])
        at += 1 + told[at]
    return found


def ask(*calls):
    """The answer to each of the calls, all on one object that is new."""
    return split_answers(answers(calls_list(calls)))


def ask_one(*call):
    return ask(call)[0]


def clock_call(first, changes=(), rules=()):
    numbers = [first, len(changes)]
    for change in changes:
        numbers += change
    numbers.append(len(rules))
    for rule in rules:
        numbers += rule
    return (SETCLOCK, *numbers)


def moment(y, m, d, h=0, minute=0, s=0):
    """The moment of a reading by offset 0."""
    return ((datetime.date(y, m, d) - EPOCH).days * 24 + h) * 3600 + minute * 60 + s


def rule_moment(rule, y):
    m, k, w, s, _ = rule
    days = [week[w] for week in calendar.monthcalendar(y, m) if week[w]]
    d = days[-1] if k == 5 else days[k - 1]
    return moment(y, m, d) + s


class PlainClock:
    """The document's words, taken one by one: every change, every rule's moment, then the last one."""

    def __init__(self, first, changes=(), rules=()):
        self.offsets = {first} | {o for _, o in changes} | {rule[4] for rule in rules}
        things = list(changes)
        for rule in rules:
            for y in range(1, 10000):
                t = rule_moment(rule, y)
                if not changes or t > changes[-1][0]:
                    things.append((t, rule[4]))
        things.sort()
        self.first = first
        self.things = things
        self.moments = [t for t, _ in things]

    def offset(self, t):
        at = bisect.bisect_right(self.moments, t)
        return self.things[at - 1][1] if at else self.first

    def when(self, shown):
        return [t for t in sorted(shown - o for o in self.offsets)
                if FIRST_MOMENT <= t <= LAST_MOMENT and t + self.offset(t) == shown]


def reading(shown):
    """The six numbers of the reading by offset 0 at the moment shown."""
    day = EPOCH + datetime.timedelta(days=shown // 86400)
    s = shown % 86400
    return [day.year, day.month, day.day, s // 3600, s // 60 % 60, s % 60]
