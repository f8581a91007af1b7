"""Rows over a floor, and their changes."""

from groupsover.base.checks import MOST_DIGITS, is_integer, is_within
from groupsover.base.floors import need_floor, need_map
from groupsover.base.groups import is_member
from groupsover.base.reckoning import has_value
from groupsover.errors import InvalidNumber, InvalidOperation, InvalidRow, Refused, TooMany
from groupsover.rows.classes import small_like
from groupsover.rows.plain import are_short_values, change_of, cleaned, is_clean_row, is_closed_row, mapped_values
from groupsover.rows.plain import sum_of_rows, summed_of, times_of_row
from groupsover.rows.solving import Changes

MAX_STEP = 4
MAX_ASKED = 5000


def has_members(floor, step, value):
    """Whether the value is a tuple of so many members."""
    if not isinstance(value, tuple) or len(value) != step:
        return False
    return all([is_member(floor.group, member) for member in value])


def has_row(floor, step, value):
    """Whether the value is a row for the step."""
    if not isinstance(value, dict) or not all([has_members(floor, step, members) for members in value]):
        return False
    return all([has_value(floor.rests, entries) and any(list(entries)) for entries in value.values()])


def need_step(step, least, most):
    """Refuse what is no step from the least to the most one."""
    if not is_within(step, least, most):
        raise InvalidNumber(step)


def need_row(floor, step, row):
    """Refuse what is no row for the step."""
    if not has_row(floor, step, row):
        raise InvalidRow("this is no row for the step")


def need_asked(floor, step):
    """Refuse a step for which a change has too many tuples."""
    need_tuples(floor.group, step)


def has_few_tuples(group, step):
    """Whether there are not too many tuples of one member more than the step."""
    asked = group.size
    for _ in range(step):
        asked = asked * group.size
    return asked <= MAX_ASKED


def need_tuples(group, step):
    """Refuse a step for which there are too many tuples of one member more."""
    if not has_few_tuples(group, step):
        raise TooMany(MAX_ASKED)


def need_closed(floor, step, row):
    """Refuse a row whose change is not 0."""
    if not is_closed_row(floor, step, row):
        raise Refused(("open",))


def short_row(row):
    """The row, unless it has too long an integer."""
    if not are_short_values(row):
        raise TooMany(MOST_DIGITS)
    return row


def need_call(floor, step, least, most, row):
    """Refuse what is no floor, step and row for a call."""
    need_floor(floor)
    need_step(step, least, most)
    need_row(floor, step, row)


def is_row(floor, step, value):
    """Whether the value is a row for the step."""
    need_floor(floor)
    need_step(step, 0, MAX_STEP)
    need_asked(floor, step)
    return has_row(floor, step, value)


def row_at(floor, step, row, members):
    """The value at a tuple."""
    need_call(floor, step, 0, MAX_STEP, row)
    if not has_members(floor, step, members):
        raise InvalidOperation("the row is asked at tuples of as many members as its step")
    need_asked(floor, step)
    return row.get(members, (0,) * floor.places)


def change(floor, step, row):
    """The change, a row of the step above."""
    need_call(floor, step, 0, MAX_STEP - 1, row)
    need_asked(floor, step)
    return short_row(change_of(floor, step, row))


def row_sum(floor, step, row, further):
    """The sum of two rows."""
    need_call(floor, step, 0, MAX_STEP, row)
    need_row(floor, step, further)
    need_asked(floor, step)
    return short_row(sum_of_rows(floor.rests, row, 1, further))


def row_difference(floor, step, row, further):
    """The difference of two rows."""
    need_call(floor, step, 0, MAX_STEP, row)
    need_row(floor, step, further)
    need_asked(floor, step)
    return short_row(sum_of_rows(floor.rests, row, -1, further))


def row_times(floor, step, number, row):
    """So many times the row."""
    need_floor(floor)
    need_step(step, 0, MAX_STEP)
    if not is_integer(number):
        raise InvalidNumber(number)
    need_row(floor, step, row)
    need_asked(floor, step)
    return short_row(times_of_row(floor.rests, number, row))


def clean_row(floor, step, row):
    """A clean row of the class of a closed row, and the row whose change, added to it, is the closed one."""
    need_call(floor, step, 1, MAX_STEP, row)
    need_asked(floor, step)
    need_closed(floor, step, row)
    clean, lower = cleaned(floor, step, row)
    if not are_short_values(clean) or not are_short_values(lower):
        # both are known but for changes, so a lesser clean row leaves no more than the row has
        clean = small_like(floor, step, clean)
        lower = Changes(floor, step).source(sum_of_rows(floor.rests, row, -1, clean))
    return short_row(clean), short_row(lower)


def is_clean(floor, step, value):
    """Whether the value is a clean row."""
    return is_row(floor, step, value) and is_clean_row(value)


def summed_row(floor, step, row):
    """The sums of the row over the last member, with the sign of the step."""
    need_call(floor, step, 1, MAX_STEP, row)
    need_asked(floor, step)
    return short_row(summed_of(floor.rests, step, row))


def mapped_row(floor, further_floor, table, step, row):
    """The row on the further floor whose values a map makes of those of a row."""
    need_map(floor, further_floor, table)
    need_step(step, 0, MAX_STEP)
    need_row(floor, step, row)
    need_asked(floor, step)
    return short_row(mapped_values(further_floor.rests, table, row))
