"""Spans: months and days added to a day, and how far it is from a day to another."""

from calendarclocks.days import is_day, is_month, month_first, month_number

MOST_MONTHS = 120000
MOST_DAYS = 4000000

# What is taken where the month hasn't the day.
ELSE_LAST = 0
ELSE_NEXT = 1
ELSE_NONE = 2


def is_span(months, days, how):
    if not (-MOST_MONTHS <= months <= MOST_MONTHS and -MOST_DAYS <= days <= MOST_DAYS):
        return False
    return ELSE_LAST <= how <= ELSE_NONE


def add_months(n, months, how):
    """The day so many months on from the day n; None, if there is none."""
    here = month_number(n)
    there = here + months
    if not is_month(there):
        return None
    day = month_first(there) + n - month_first(here)
    behind = month_first(there + 1)
    if day < behind:
        return day
    if how == ELSE_LAST:
        return behind - 1
    if how == ELSE_NEXT:
        # Month 12 has every day, so the next month is never beyond the calendar.
        return behind
    return None


def add_span(n, months, days, how):
    """The day that the months, then the days lead to from the day n; None, if there is none."""
    day = add_months(n, months, how)
    if day is None or not is_day(day + days):
        return None
    return day + days


def span_between(a, b):
    """The months and the days from the day a to the day b, which is not before it."""
    # In b's own month lies the only day that may be too far on.
    months = month_number(b) - month_number(a)
    if add_months(a, months, ELSE_LAST) > b:
        months -= 1
    return [months, b - add_months(a, months, ELSE_LAST)]
