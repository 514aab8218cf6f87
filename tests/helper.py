"""What the tests share: how calls are handed in, and a clock and a recurrence that are slow but plain."""

import bisect
import calendar
import datetime

from calendarclocks.times import answers

DAY, DATE, SETCLOCK, OFFSET, READ, WHEN = 1, 2, 3, 4, 5, 6
ADD, FAR, SETRECUR, ISONE, COUNT, NTH = 7, 8, 9, 10, 11, 12

BY_DAY, BY_WEEK, BY_MONTH, BY_YEAR = 0, 1, 2, 3

FIRST_DAY = -719162
LAST_DAY = 2932896
FIRST_MOMENT = -62135596800
LAST_MOMENT = 253402300799
HUGE = 10 ** 20
EPOCH = datetime.date(1970, 1, 1)

# The last Sunday of month 3 and of month 10, at one o'clock.
SPRING = (3, 5, 6, 3600, 7200)
AUTUMN = (10, 5, 6, 3600, 3600)


def calls_list(calls):
    """Calls, each a tuple of its number and its numbers, in the interface's form."""
    handed = []
    for call in calls:
        handed += [call[0], len(call) - 1, *call[1:], 0]
    return handed


def split_answers(told):
    found = []
    at = 0
    while at < len(told):
        found.append(told[at + 1:at + 1 + told[at]])
        at += 1 + told[at]
    return found


def ask(*calls):
    """The answer to each of the calls, all on one object that is new."""
    return split_answers(answers(calls_list(calls)))


def ask_one(*call):
    return ask(call)[0]


def in_lines(calls, *ahead):
    """The answers to more calls than one list may hold, each list begun with the calls ahead."""
    found = []
    size = 400 - len(ahead)
    for at in range(0, len(calls), size):
        found += ask(*ahead, *calls[at:at + size])[len(ahead):]
    return found


def day(y, m, d):
    """The number of the day."""
    return (datetime.date(y, m, d) - EPOCH).days


def clock_call(first, changes=(), rules=()):
    numbers = [first, len(changes)]
    for change in changes:
        numbers += change
    numbers.append(len(rules))
    for rule in rules:
        numbers += rule
    return (SETCLOCK, *numbers)


def moment(y, m, d, h=0, minute=0, s=0):
    """The moment of a reading by offset 0."""
    return (day(y, m, d) * 24 + h) * 3600 + minute * 60 + s


def rule_moment(rule, y):
    m, k, w, s, _ = rule
    days = [week[w] for week in calendar.monthcalendar(y, m) if week[w]]
    d = days[-1] if k == 5 else days[k - 1]
    return moment(y, m, d) + s


class PlainClock:
    """The document's words, taken one by one: every change, every rule's moment, then the last one."""

    def __init__(self, first, changes=(), rules=()):
        self.offsets = {first} | {o for _, o in changes} | {rule[4] for rule in rules}
        things = list(changes)
        for rule in rules:
            for y in range(1, 10000):
                t = rule_moment(rule, y)
                if not changes or t > changes[-1][0]:
                    things.append((t, rule[4]))
        things.sort()
        self.first = first
        self.things = things
        self.moments = [t for t, _ in things]

    def offset(self, t):
        at = bisect.bisect_right(self.moments, t)
        return self.things[at - 1][1] if at else self.first

    def when(self, shown):
        return [t for t in sorted(shown - o for o in self.offsets)
                if FIRST_MOMENT <= t <= LAST_MOMENT and t + self.offset(t) == shown]


def reading(shown):
    """The six numbers of the reading by offset 0 at the moment shown."""
    date = EPOCH + datetime.timedelta(days=shown // 86400)
    s = shown % 86400
    return [date.year, date.month, date.day, s // 3600, s // 60 % 60, s % 60]


def recur_call(by, every, first, until=None, days=(), months=(), pairs=()):
    numbers = [by, every, first, 0 if until is None else 1, until or 0]
    numbers += [len(days), *days, len(months), *months, len(pairs)]
    for pair in pairs:
        numbers += pair
    return (SETRECUR, *numbers)


def recurs(n, by, every, first, until=None, days=(), months=(), pairs=()):
    """The document's words, taken one by one: whether the day is one of the recurrence's."""
    date = EPOCH + datetime.timedelta(days=n)
    start = EPOCH + datetime.timedelta(days=first)
    if n < first or (until is not None and n > until) or (months and date.month not in months):
        return False
    if by == BY_DAY:
        return (n - first) % every == 0
    if by == BY_WEEK:
        weeks = ((n - date.weekday()) - (first - start.weekday())) // 7
        return weeks % every == 0 and date.weekday() in days
    turns = date.year - start.year
    if by == BY_MONTH:
        turns = turns * 12 + date.month - start.month
    if turns % every != 0:
        return False
    return any(tells_day(date, number) for number in days) or any(tells_pair(date, *pair) for pair in pairs)


def tells_day(date, number):
    length = calendar.monthrange(date.year, date.month)[1]
    return date.day == number or date.day == length + 1 + number


def tells_pair(date, k, w):
    found = [week[w] for week in calendar.monthcalendar(date.year, date.month) if week[w]]
    at = k - 1 if k > 0 else len(found) + k
    return 0 <= at < len(found) and found[at] == date.day


def random_recurrence(source, first):
    """Arguments of recur_call, with a from at or somewhat behind the day first."""
    by = source.randint(0, 3)
    every = source.choice((1, 1, 2, 3, 5, 12))
    until = source.choice((None, None, min(LAST_DAY, first + source.randint(0, 1500))))
    months = sorted(source.sample(range(1, 13), source.choice((0, 0, 1, 3, 11, 12))))
    days, pairs = [], []
    if by == BY_WEEK:
        days = sorted(source.sample(range(7), source.randint(1, 7)))
    if by >= BY_MONTH:
        days = sorted(source.sample([*range(-31, 0), *range(1, 32)], source.choice((0, 1, 2, 6))))
        every_pair = [(k, w) for k in (-5, -4, -3, -2, -1, 1, 2, 3, 4, 5) for w in range(7)]
        pairs = sorted(source.sample(every_pair, source.choice((0, 1, 2, 6)) if days else source.choice((1, 2, 6))))
    return by, every, min(LAST_DAY, first + source.choice((0, 0, 1, 40))), until, days, months, pairs
