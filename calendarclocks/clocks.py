"""Clocks: what they are, their offset at a moment, the moments of a reading."""

from calendarclocks.days import DAY_SECONDS, is_moment, nth_weekday, year_of

MOST_CHANGES = 64


class Change:
    """From the moment on, which may lie outside the calendar, the offset holds."""

    def __init__(self, moment, offset):
        self.moment = moment
        self.offset = offset


class Rule:
    """In every year, from the k-th weekday of the month on, at the second told, the offset holds."""

    def __init__(self, month, k, weekday, second, offset):
        self.month = month
        self.k = k
        self.weekday = weekday
        self.second = second
        self.offset = offset


class Clock:
    """A first offset, a list of changes, a list of no rules or two."""

    def __init__(self, first, changes, rules):
        self.first = first
        self.changes = changes
        self.rules = rules


def clock_from(numbers):
    """The clock that setclock's numbers tell; None, if they tell none."""
    if len(numbers) < 2 or not 0 <= numbers[1] <= MOST_CHANGES:
        return None
    rules_at = 2 + 2 * numbers[1]
    if len(numbers) <= rules_at or numbers[rules_at] not in (0, 2):
        return None
    if len(numbers) != rules_at + 1 + 5 * numbers[rules_at]:
        return None
    changes = [Change(numbers[at], numbers[at + 1]) for at in range(2, rules_at, 2)]
    rules = [rule_from(numbers, at) for at in range(rules_at + 1, len(numbers), 5)]
    if not (is_offset(numbers[0]) and are_changes(changes) and are_rules(rules)):
        return None
    return Clock(numbers[0], changes, rules)


def rule_from(numbers, at):
    return Rule(numbers[at], numbers[at + 1], numbers[at + 2], numbers[at + 3], numbers[at + 4])


def is_offset(o):
    return -DAY_SECONDS < o < DAY_SECONDS


def are_changes(changes):
    for at in range(len(changes)):
        if not is_offset(changes[at].offset):
            return False
        if at > 0 and changes[at].moment <= changes[at - 1].moment:
            return False
    return True


def are_rules(rules):
    for rule in rules:
        if not is_rule(rule):
            return False
    return len(rules) == 0 or not ever_meet(rules[0], rules[1])


def is_rule(rule):
    if not (1 <= rule.month <= 12 and 1 <= rule.k <= 5 and 0 <= rule.weekday <= 6):
        return False
    return 0 <= rule.second < DAY_SECONDS and is_offset(rule.offset)


def ever_meet(one, other):
    """Whether the two rules are at one moment in some year."""
    if one.month != other.month or one.weekday != other.weekday or one.second != other.second:
        return False
    # In some years each month's fourth weekday w is its last one (k 5).
    return min(one.k, 4) == min(other.k, 4)


def rule_moment(rule, y):
    return nth_weekday(y, rule.month, rule.k, rule.weekday) * DAY_SECONDS + rule.second


def latest_moment(rule, t):
    """The rule's last moment that is not behind t; None, if there is none."""
    y = year_of(t // DAY_SECONDS)
    moment = rule_moment(rule, y)
    if moment <= t:
        return moment
    if y == 1:
        return None
    return rule_moment(rule, y - 1)


def offset_at(clock, t):
    """The clock's offset at the moment t."""
    offset = clock.first
    last = None
    for change in clock.changes:
        if change.moment > t:
            # No rule's moment counts before the last change.
            return offset
        offset = change.offset
        last = change.moment
    for rule in clock.rules:
        moment = latest_moment(rule, t)
        if moment is not None and (last is None or moment > last):
            offset = rule.offset
            last = moment
    return offset


def offsets_of(clock):
    """All offsets that the clock may have, some of them perhaps more than once."""
    changed = [change.offset for change in clock.changes]
    ruled = [rule.offset for rule in clock.rules]
    return [clock.first] + changed + ruled


def moments_of(clock, shown):
    """The moments, rising, at which the clock reads what offset 0 reads at the moment shown."""
    found = []
    for offset in offsets_of(clock):
        t = shown - offset
        if t not in found and is_moment(t) and offset_at(clock, t) == offset:
            found.append(t)
    return sorted(found)
