"""Closed rows: the changes that they are, the tests that they do not pass, and their classes."""

from math import gcd

from groupsover.base.checks import is_ratio
from groupsover.base.diagonals import sizes_modulo
from groupsover.base.floors import fixed_list, need_floor
from groupsover.base.tables import ratio_of
from groupsover.errors import InvalidTest, TooMany
from groupsover.rows.classes import Classes
from groupsover.rows.few import few_list
from groupsover.rows.plain import change_of, is_closed_row, sum_of_rows
from groupsover.rows.rows import MAX_STEP, has_members, has_row, need_asked, need_call, need_closed, need_row
from groupsover.rows.rows import need_step, short_row
from groupsover.rows.solving import Changes

MAX_LISTED = 300
MAX_BOTTOM = 10 ** 6


def has_closed_row(floor, step, value):
    """Whether the value is a closed row."""
    return has_row(floor, step, value) and is_closed_row(floor, step, value)


def need_closed_call(floor, step, row):
    """Refuse what is no floor, step and closed row."""
    need_call(floor, step, 1, MAX_STEP, row)
    need_asked(floor, step)
    need_closed(floor, step, row)


def is_closed(floor, step, value):
    """Whether the value is a closed row."""
    need_floor(floor)
    need_step(step, 1, MAX_STEP)
    need_asked(floor, step)
    return has_closed_row(floor, step, value)


def source_of(floor, step, row):
    """A row of the step less 1 whose change is the closed row, None if there is none."""
    need_closed_call(floor, step, row)
    source = Changes(floor, step).source(row)
    return None if source is None else short_row(source)


def is_source(floor, step, row, value):
    """Whether the value is a row of the step less 1 whose change is the closed row."""
    need_closed_call(floor, step, row)
    return has_row(floor, step - 1, value) and change_of(floor, step - 1, value) == row


def test_for(floor, step, row):
    """A test whose value at the closed row is not (0, 1), None if there is none."""
    need_closed_call(floor, step, row)
    return Changes(floor, step).test(row)


def is_test(floor, step, value):
    """Whether the value is a test."""
    need_floor(floor)
    need_step(step, 1, MAX_STEP)
    need_asked(floor, step)
    return has_test(floor, step, value)


def has_test(floor, step, value):
    """Whether the value is a test, also where changes have too many tuples."""
    if not isinstance(value, dict) or not all([has_members(floor, step, members) for members in value]):
        return False
    if not all([has_ratios(floor.rests, ratios) for ratios in value.values()]):
        return False
    shares = shares_of_changes(floor, value)
    return all([sum_of_shares(shares[spot]) == (0, 1) for spot in shares])


def has_ratios(rests, value):
    """Whether the value can stand at a tuple of a test."""
    if not isinstance(value, tuple) or len(value) != len(rests) or not all([is_ratio(ratio) for ratio in value]):
        return False
    if not any([top for top, _ in value]):
        return False
    return all([bottom <= MAX_BOTTOM and rest % bottom == 0 for (_, bottom), rest in zip(value, rests)])


def shares_of_changes(floor, test):
    """For each row with one entry 1 that matters, the value of a test at its change, by bottoms."""
    shares = {}
    for members in test:
        ratios = test[members]
        last = 1 if len(members) % 2 == 0 else -1
        add_moved(shares, members[1:], floor.tables[members[0]], ratios)
        add_shares(shares, members[:-1], last, ratios)
        for at in range(len(members) - 1):
            member = floor.group.all_products[members[at]][members[at + 1]]
            add_shares(shares, members[:at] + (member,) + members[at + 2:], 1 if at % 2 else -1, ratios)
    return shares


def add_moved(shares, members, table, ratios):
    """Add what ratios tell of an entry at each place that a table leads on."""
    for row, (top, bottom) in zip(table, ratios):
        for place, entry in enumerate(row):
            add_share(shares, (members, place), entry * top, bottom)


def add_shares(shares, members, times, ratios):
    """Add so many times what ratios tell of an entry at each place."""
    for place, (top, bottom) in enumerate(ratios):
        add_share(shares, (members, place), times * top, bottom)


def add_share(shares, spot, top, bottom):
    """Add a fraction to those at a spot, which are kept by their bottoms."""
    found = shares.setdefault(spot, {})
    found[bottom] = (found.get(bottom, 0) + top) % bottom


def sum_of_shares(found):
    """The sum of fractions, kept by their bottoms, modulo 1, as a ratio."""
    parts = [(found[bottom], bottom) for bottom in found] or [(0, 1)]
    while len(parts) > 1:
        # by halves, since bottoms can become long
        half = len(parts) // 2
        parts = [joined_share(one, other) for one, other in zip(parts, parts[half:2 * half])] + parts[2 * half:]
    return ratio_of(parts[0][0], parts[0][1])


def joined_share(one, other):
    """The sum of two fractions."""
    divisor = gcd(one[1], other[1])
    return one[0] * (other[1] // divisor) + other[0] * (one[1] // divisor), one[1] // divisor * other[1]


def test_value(floor, step, test, row):
    """The value of a test at a row, a ratio."""
    need_floor(floor)
    need_step(step, 1, MAX_STEP)
    if not has_test(floor, step, test):
        raise InvalidTest("this is no test")
    need_row(floor, step, row)
    need_asked(floor, step)
    return value_at(test, row)


def value_at(test, row):
    """The value of a test at a row, both on one floor."""
    found = {}
    for members in row:
        if members in test:
            for (top, bottom), entry in zip(test[members], row[members]):
                found[bottom] = (found.get(bottom, 0) + top * entry) % bottom
    return sum_of_shares(found)


def are_one_class(floor, step, row, further):
    """Whether two closed rows are of one class."""
    need_call(floor, step, 1, MAX_STEP, row)
    need_row(floor, step, further)
    need_asked(floor, step)
    need_closed(floor, step, row)
    need_closed(floor, step, further)
    return Changes(floor, step).order(sum_of_rows(floor.rests, row, -1, further)) == 1


def need_listed(floor, step):
    """Refuse a step for which clean rows have too many integers."""
    many = floor.places
    for _ in range(step + 1):
        many = many * (floor.group.size - 1)
    if many > MAX_LISTED:
        raise TooMany(MAX_LISTED)


def class_list(floor, step):
    """The list of the step."""
    need_floor(floor)
    need_step(step, 0, MAX_STEP)
    need_listed(floor, step)
    return few_list(floor, step) if step else fixed_list(floor)


def class_makers(floor, step):
    """Closed rows, one for each integer of the list, whose classes make all classes."""
    need_floor(floor)
    need_step(step, 1, MAX_STEP)
    need_listed(floor, step)
    return tuple([short_row(row) for row in Classes(floor, step).makers()])


def class_place(floor, step, row):
    """How many of each of the makers add up to a row of the class of a closed row."""
    need_call(floor, step, 1, MAX_STEP, row)
    need_asked(floor, step)
    need_listed(floor, step)
    need_closed(floor, step, row)
    return Classes(floor, step).place(row)


def are_class_makers(floor, step, value):
    """Whether the value is a tuple of rows as class_makers can give them."""
    need_floor(floor)
    need_step(step, 1, MAX_STEP)
    need_listed(floor, step)
    if not isinstance(value, tuple) or not all([has_closed_row(floor, step, row) for row in value]):
        return False
    classes, changes = Classes(floor, step), Changes(floor, step)
    if tuple([changes.order(row) for row in value]) != classes.sizes:
        return False
    # rows of these orders make all classes only if they do so in just one way
    places = [classes.place(row) for row in value]
    rests = [[size if k == at else 0 for k in range(len(value))] for at, size in enumerate(classes.sizes)]
    return all([size == 1 for size in sizes_modulo(places + rests, len(value), floor.group.size)])


def class_order(floor, step, row):
    """The least integer from 1 on so many times which the closed row is a change."""
    need_closed_call(floor, step, row)
    return Changes(floor, step).order(row)
