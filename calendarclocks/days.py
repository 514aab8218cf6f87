"""The calendar: days by number and by date, weekdays, weeks, moments."""

LAST_YEAR = 9999
DAYS_BEFORE_1970 = 719162
LAST_DAY = 2932896
DAY_SECONDS = 86400

# A thirteenth one, the whole year's days, so that month 12 has an end too.
DAYS_BEFORE_MONTH = (0, 31, 59, 90, 120, 151, 181, 212, 243, 273, 304, 334, 365)

DAYS_IN_400_YEARS = 146097
DAYS_IN_100_YEARS = 36524
DAYS_IN_4_YEARS = 1461
DAYS_IN_YEAR = 365


def is_leap(y):
    return y % 4 == 0 and (y % 100 != 0 or y % 400 == 0)


def days_before_month(y, m):
    """The days of year y ahead of month m; m 13 gives all of them."""
    days = DAYS_BEFORE_MONTH[m - 1]
    if m > 2 and is_leap(y):
        return days + 1
    return days


def month_length(y, m):
    return days_before_month(y, m + 1) - days_before_month(y, m)


def is_date(y, m, d):
    if not (1 <= y <= LAST_YEAR and 1 <= m <= 12):
        return False
    return 1 <= d <= month_length(y, m)


def first_of_year(y):
    """The number of the first day of year y."""
    before = y - 1
    leaps = before // 4 - before // 100 + before // 400
    return before * DAYS_IN_YEAR + leaps - DAYS_BEFORE_1970


def day_number(y, m, d):
    return first_of_year(y) + days_before_month(y, m) + d - 1


def is_day(n):
    return -DAYS_BEFORE_1970 <= n <= LAST_DAY


def year_of(n):
    """The year in which the day of number n lies."""
    rest = n + DAYS_BEFORE_1970
    years = rest // DAYS_IN_400_YEARS * 400
    rest = rest % DAYS_IN_400_YEARS
    # The last of four hundred-year stretches is a day longer than the others,
    # and so is the last of four years: that day must not open a fifth.
    hundreds = min(rest // DAYS_IN_100_YEARS, 3)
    rest = rest - hundreds * DAYS_IN_100_YEARS
    fours = rest // DAYS_IN_4_YEARS
    rest = rest % DAYS_IN_4_YEARS
    ones = min(rest // DAYS_IN_YEAR, 3)
    return years + hundreds * 100 + fours * 4 + ones + 1


def date_of(n):
    """Year, month and day of the month of the day of number n."""
    y = year_of(n)
    ahead = n - first_of_year(y)
    m = 1
    while days_before_month(y, m + 1) <= ahead:
        m += 1
    return [y, m, ahead - days_before_month(y, m) + 1]


def month_number(n):
    """The number of the month in which the day of number n lies: months from the beginning of year 0."""
    date = date_of(n)
    return date[0] * 12 + date[1] - 1


def is_month(number):
    return 1 <= number // 12 <= LAST_YEAR


def month_first(number):
    """The number of the first day of the month of that number; the one behind the last month has one too."""
    return day_number(number // 12, number % 12 + 1, 1)


def weekday_of(n):
    """0 (Monday) to 6; day 0 is a 3."""
    return (n + 3) % 7


def week_of(n):
    """The year and the number of the week in which the day of number n lies."""
    # Week 1 has the year's first Thursday, so a week is of its Thursday's year.
    thursday = n - weekday_of(n) + 3
    y = year_of(thursday)
    return [y, (thursday - first_of_year(y)) // 7 + 1]


def nth_weekday(y, m, k, w):
    """The number of the day that is the k-th weekday w of the month; k 5 is the last one."""
    first = day_number(y, m, 1)
    d = 1 + (w - weekday_of(first)) % 7 + 7 * (k - 1)
    if d > month_length(y, m):
        # Only a fifth one can be missing; the fourth is the last one then.
        d -= 7
    return first + d - 1


def is_moment(t):
    return is_day(t // DAY_SECONDS)
