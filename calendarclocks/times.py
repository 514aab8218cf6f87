"""The calls, and the answers to a list of them."""

from calendarclocks.clocks import Clock, clock_from, moments_of, offset_at
from calendarclocks.days import DAY_SECONDS, date_of, day_number, is_date, is_day, is_moment, week_of, weekday_of
from calendarclocks.recurrences import count_between, is_one, nth_between, recurrence_from
from calendarclocks.spans import add_span, is_span, span_between

# How many days count and nth look at, at most.
MOST_LOOKED_AT = 100000


class UnknownCall(ValueError):
    """A call's number is none of those that the program answers."""


class Kept:
    """What the calls of one list work on; new at the list's beginning."""

    def __init__(self):
        self.clock = Clock(0, [], [])
        self.recurrence = None


def answer_day(y, m, d):
    if not is_date(y, m, d):
        return [-1]
    return [0, day_number(y, m, d)]


def answer_date(n):
    if not is_day(n):
        return [-1]
    return [0] + date_of(n) + [weekday_of(n)] + week_of(n)


def answer_setclock(kept, numbers):
    clock = clock_from(numbers)
    if clock is None:
        return [-5]
    kept.clock = clock
    return [len(clock.changes)]


def answer_offset(kept, t):
    if not is_moment(t):
        return [-1]
    return [0, offset_at(kept.clock, t)]


def answer_read(kept, t):
    if not is_moment(t):
        return [-1]
    shown = t + offset_at(kept.clock, t)
    if not is_moment(shown):
        return [-4]
    second = shown % DAY_SECONDS
    return [0] + date_of(shown // DAY_SECONDS) + [second // 3600, second // 60 % 60, second % 60]


def answer_when(kept, numbers):
    y = numbers[0]
    m = numbers[1]
    d = numbers[2]
    h = numbers[3]
    minute = numbers[4]
    s = numbers[5]
    if not (is_date(y, m, d) and 0 <= h <= 23 and 0 <= minute <= 59 and 0 <= s <= 59):
        return [-1]
    shown = day_number(y, m, d) * DAY_SECONDS + h * 3600 + minute * 60 + s
    moments = moments_of(kept.clock, shown)
    return [len(moments)] + moments


def answer_add(n, months, days, how):
    if not (is_day(n) and is_span(months, days, how)):
        return [-1]
    day = add_span(n, months, days, how)
    if day is None:
        return [-4]
    return [0, day]


def answer_far(a, b):
    if not (is_day(a) and is_day(b) and a <= b):
        return [-1]
    return [0] + span_between(a, b)


def answer_setrecur(kept, numbers):
    recurrence = recurrence_from(numbers)
    if recurrence is None:
        return [-5]
    kept.recurrence = recurrence
    return [0]


def answer_isone(kept, n):
    if kept.recurrence is None:
        return [-3]
    if not is_day(n):
        return [-1]
    return [1 if is_one(kept.recurrence, n) else 0]


def answer_count(kept, a, b):
    if kept.recurrence is None:
        return [-3]
    if not (is_day(a) and is_day(b)):
        return [-1]
    if b - a >= MOST_LOOKED_AT:
        return [-2]
    return [count_between(kept.recurrence, a, b)]


def answer_nth(kept, a, k):
    if kept.recurrence is None:
        return [-3]
    if not is_day(a) or k < 0:
        return [-1]
    day = nth_between(kept.recurrence, a, a + MOST_LOOKED_AT - 1, k)
    if day is None:
        return [-4]
    return [0, day]


def answer_call(kept, call, numbers):
    if call == 1:
        return answer_day(numbers[0], numbers[1], numbers[2])
    if call == 2:
        return answer_date(numbers[0])
    if call == 3:
        return answer_setclock(kept, numbers)
    if call == 4:
        return answer_offset(kept, numbers[0])
    if call == 5:
        return answer_read(kept, numbers[0])
    if call == 6:
        return answer_when(kept, numbers)
    if call == 7:
        return answer_add(numbers[0], numbers[1], numbers[2], numbers[3])
    if call == 8:
        return answer_far(numbers[0], numbers[1])
    if call == 9:
        return answer_setrecur(kept, numbers)
    if call == 10:
        return answer_isone(kept, numbers[0])
    if call == 11:
        return answer_count(kept, numbers[0], numbers[1])
    if call == 12:
        return answer_nth(kept, numbers[0], numbers[1])
    raise UnknownCall("a call that is not answered")


def answers(calls):
    """The answers to the calls, in order, each with how many numbers it has ahead of it."""
    kept = Kept()
    told = []
    at = 0
    while at < len(calls):
        end = at + 2 + calls[at + 1]
        answer = answer_call(kept, calls[at], calls[at + 2:end])
        told.append(len(answer))
        told.extend(answer)
        # Behind its numbers a call has how many lists it has: always 0.
        at = end + 1
    return told
