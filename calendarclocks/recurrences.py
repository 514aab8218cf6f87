"""What recurs: recurrences, and which days are theirs."""

from calendarclocks.days import LAST_DAY, is_day, month_first, month_number, weekday_of

BY_DAY = 0
BY_WEEK = 1
BY_MONTH = 2
BY_YEAR = 3

MOST_EVERY = 1000
MOST_DAYS = 62
MOST_MONTHS = 12
MOST_PAIRS = 70

# How many numbers setrecur has ahead of its days, months and pairs.
NUMBERS_AHEAD = 5


class Recurrence:
    """What recurs from the day first on to the day last; days, months and pairs (tuples of k and w) are lists."""

    def __init__(self, by, every, first, last, days, months, pairs):
        self.by = by
        self.every = every
        self.first = first
        self.last = last
        self.first_month = month_number(first)
        self.months = months if len(months) > 0 else list(range(1, 13))
        # By day and week what is told is told once for all days, by month and year once for each sort of month.
        self.origins = origins_of(by, first, days)
        self.table = table_of(by, days, pairs)


def recurrence_from(numbers):
    """The recurrence that setrecur's numbers tell; None, if they tell none."""
    lists = lists_from(numbers)
    if lists is None or not are_ahead(numbers):
        return None
    by = numbers[0]
    days = lists[0]
    months = lists[1]
    pairs = [(lists[2][at], lists[2][at + 1]) for at in range(0, len(lists[2]), 2)]
    if not (are_days(by, days) and are_months(months) and are_pairs(by, pairs)):
        return None
    if by >= BY_MONTH and len(days) == 0 and len(pairs) == 0:
        return None
    last = numbers[4] if numbers[3] == 1 else LAST_DAY
    return Recurrence(by, numbers[1], numbers[2], last, days, months, pairs)


def lists_from(numbers):
    """The numbers of the days, of the months and of the pairs; None, if these are not just what there is."""
    lists = []
    at = NUMBERS_AHEAD
    for bound in ((MOST_DAYS, 1), (MOST_MONTHS, 1), (MOST_PAIRS, 2)):
        if at >= len(numbers) or not 0 <= numbers[at] <= bound[0]:
            return None
        end = at + 1 + numbers[at] * bound[1]
        lists.append(numbers[at + 1:end])
        at = end
    if at != len(numbers):
        return None
    return lists


def are_ahead(numbers):
    """Whether by, every, from, has and until are as they must be."""
    if not (BY_DAY <= numbers[0] <= BY_YEAR and 1 <= numbers[1] <= MOST_EVERY and is_day(numbers[2])):
        return False
    if numbers[3] == 0:
        return numbers[4] == 0
    return numbers[3] == 1 and is_day(numbers[4])


def are_days(by, days):
    if by == BY_DAY:
        return len(days) == 0
    if by == BY_WEEK:
        return len(days) > 0 and rise_within(days, 0, 6)
    return 0 not in days and rise_within(days, -31, 31)


def are_months(months):
    return rise_within(months, 1, 12)


def are_pairs(by, pairs):
    if by < BY_MONTH:
        return len(pairs) == 0
    for pair in pairs:
        if not (1 <= abs(pair[0]) <= 5 and 0 <= pair[1] <= 6):
            return False
    return rise(pairs)


def rise_within(numbers, least, most):
    """Whether the numbers rise strictly from least on to most."""
    if len(numbers) == 0:
        return True
    return least <= numbers[0] and numbers[-1] <= most and rise(numbers)


def rise(values):
    for at in range(1, len(values)):
        if values[at - 1] >= values[at]:
            return False
    return True


def origins_of(by, first, days):
    """By day and week: the days from which every turn of days leads to another one; else none."""
    if by == BY_DAY:
        return [first]
    if by == BY_WEEK:
        monday = first - weekday_of(first)
        return [monday + weekday for weekday in days]
    return []


def table_of(by, days, pairs):
    """By month and year: for each length and first weekday of a month its days that are told; else empty."""
    table = {}
    if by < BY_MONTH:
        return table
    for length in range(28, 32):
        for weekday in range(7):
            table[(length, weekday)] = told_of_month(length, weekday, days, pairs)
    return table


def told_of_month(length, weekday, days, pairs):
    """The days, 1 to length and rising, that are told of a month that begins on the weekday."""
    told = {}
    for day in days:
        told[day if day > 0 else length + 1 + day] = True
    for pair in pairs:
        told[day_of_pair(length, weekday, pair[0], pair[1])] = True
    return [day for day in range(1, length + 1) if day in told]


def day_of_pair(length, weekday, k, w):
    """The day that is the k-th weekday w of a month; below 1 or behind length, if it hasn't so many."""
    if k > 0:
        return 1 + (w - weekday) % 7 + 7 * (k - 1)
    last_weekday = (weekday + length - 1) % 7
    return length - (last_weekday - w) % 7 + 7 * (k + 1)


def count_between(recurrence, a, b):
    """How many of the recurrence's days lie from a on to b, b too."""
    low = max(a, recurrence.first)
    high = min(b, recurrence.last)
    if low > high:
        return 0
    total = 0
    for month in range(month_number(low), month_number(high) + 1):
        total += count_in_month(recurrence, month, low, high)
    return total


def count_in_month(recurrence, month, low, high):
    """How many of the recurrence's days lie in the month from low on to high, which lie in first to last."""
    if not has_month(recurrence, month):
        return 0
    first = month_first(month)
    behind = month_first(month + 1)
    if recurrence.by < BY_MONTH:
        return count_by_turns(recurrence, max(low, first), min(high, behind - 1))
    told = recurrence.table[(behind - first, weekday_of(first))]
    if low <= first and behind - 1 <= high:
        return len(told)
    return len([day for day in told if low <= first + day - 1 <= high])


def has_month(recurrence, month):
    """Whether the recurrence lets the month of that number have days."""
    if month % 12 + 1 not in recurrence.months:
        return False
    if recurrence.by == BY_MONTH:
        return (month - recurrence.first_month) % recurrence.every == 0
    if recurrence.by == BY_YEAR:
        return (month // 12 - recurrence.first_month // 12) % recurrence.every == 0
    return True


def count_by_turns(recurrence, low, high):
    """By day and week: how many days there are from low on to high, if their months are told."""
    turn = recurrence.every if recurrence.by == BY_DAY else 7 * recurrence.every
    total = 0
    for origin in recurrence.origins:
        total += (high - origin) // turn - (low - 1 - origin) // turn
    return total


def is_one(recurrence, n):
    return count_between(recurrence, n, n) == 1


def nth_between(recurrence, a, b, k):
    """The k-th, from 0 on, of the recurrence's days from a on to b; None, if there are no so many."""
    low = max(a, recurrence.first)
    high = min(b, recurrence.last)
    if low > high:
        return None
    left = k
    for month in range(month_number(low), month_number(high) + 1):
        here = count_in_month(recurrence, month, low, high)
        if left < here:
            return nth_in_month(recurrence, month, low, left)
        left -= here
    return None


def nth_in_month(recurrence, month, low, k):
    """The k-th of the recurrence's days in the month from low on, of which there are more than k."""
    day = max(low, month_first(month))
    while count_in_month(recurrence, month, low, day) <= k:
        day += 1
    return day
