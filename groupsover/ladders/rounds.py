"""Groups that one member makes: all lists come again by two, and rows are told by values."""

from math import gcd

from groupsover.base.checks import is_integer
from groupsover.base.equations import Solver
from groupsover.base.floors import need_floor, need_value
from groupsover.base.groups import few_makers, need_group, order_of
from groupsover.base.middles import middle_rows, turned_rows
from groupsover.base.reckoning import led_value, reduced, short_value, sum_of_values
from groupsover.base.sparse import torsion_list
from groupsover.errors import InvalidNumber, InvalidOperation, Refused
from groupsover.rows.plain import tidy_row
from groupsover.rows.rows import need_asked, need_closed, need_row, need_step, short_row

MOST_ROUND_STEP = 4


def least_maker(group):
    """The least member whose powers are all members, None if there is none."""
    for member in range(group.size):
        if order_of(group.all_products, member) == group.size:
            return member
    return None


def maker_of(group):
    """The least member whose powers are all members, None if there is none."""
    need_group(group)
    return least_maker(group)


def need_round(floor):
    """Refuse what is no floor over a round; the least maker."""
    need_floor(floor)
    maker = least_maker(floor.group)
    if maker is None:
        raise InvalidOperation("the group of the floor is no round")
    return maker


def powers_of(group, maker):
    """The powers of a maker from the power 0 on."""
    found = [0]
    for _ in range(group.size - 1):
        found.append(group.all_products[found[-1]][maker])
    return found


def less_table(floor, member):
    """The table of what a member makes of a value, less the value."""
    return [[entry - (1 if at == place else 0) for place, entry in enumerate(row)]
            for at, row in enumerate(floor.tables[member])]


def whole_table(floor):
    """The table of the sum of what all members make of a value."""
    found = [[0] * floor.places for _ in range(floor.places)]
    for table in floor.tables:
        found = [[entry + part for entry, part in zip(row, line)] for row, line in zip(found, table)]
    return [reduced((rest,) * floor.places, row) for row, rest in zip(found, floor.rests)]


def entries_of(rows):
    """The rows of a table as dicts."""
    return [{place: entry for place, entry in enumerate(row) if entry} for row in rows]


def sums_list(floor, is_even):
    """The list of the values that few makers leave modulo sums over all members, or the other way around."""
    rests, makers = floor.rests, few_makers(floor.group)
    less = [less_table(floor, maker) for maker in makers]
    whole = entries_of(whole_table(floor))
    if is_even:
        rows = entries_of([row for table in less for row in table])
        led = middle_rows(rests, turned_rows(whole, floor.places), rows, rests * len(makers))
    else:
        made = [column for table in less for column in turned_rows(entries_of(table), floor.places)]
        led = middle_rows(rests, made, whole, rests)
    return torsion_list(led, floor.group.size)


def round_list(floor, step):
    """The list of the step turned by sums, which comes again by 2."""
    need_round(floor)
    if not is_integer(step):
        raise InvalidNumber(step)
    return sums_list(floor, step % 2 == 0)


def turned_list(floor, step):
    """The list of step 0 or -1 modulo sums over all members, for a floor over any group."""
    need_floor(floor)
    if not is_integer(step) or step not in (-1, 0):
        raise InvalidNumber(step)
    return sums_list(floor, step == 0)


def need_told_value(floor, step, value):
    """Refuse what is no step and no value that tells a closed row of this step; the least maker."""
    maker = need_round(floor)
    need_step(step, 1, 2)
    need_value(floor, value)
    table = whole_table(floor) if step == 1 else less_table(floor, maker)
    if any(list(led_value(floor.rests, table, value))):
        raise Refused(("open",))
    return maker


def round_row(floor, step, value):
    """The closed row that a value tells."""
    maker = need_told_value(floor, step, value)
    powers = powers_of(floor.group, maker)
    if step == 2:
        many = len(powers)
        return tidy_row({(powers[i], powers[j]): value for i in range(many) for j in range(many) if i + j >= many})
    found, total = {}, (0,) * floor.places
    for power in powers:
        found[(power,)] = total
        total = sum_of_values(floor.rests, total, 1, led_value(floor.rests, floor.tables[power], value))
    return short_row(tidy_row(found))


def round_source(floor, step, value):
    """A value that shows that the row a value tells is a change, None if there is none."""
    maker = need_told_value(floor, step, value)
    table = less_table(floor, maker) if step == 1 else whole_table(floor)
    wanted = {place: entry for place, entry in enumerate(value) if entry}
    found = Solver(floor.rests, entries_of(table), floor.places, [wanted]).solved({0: 1})
    return None if found is None else reduced(floor.rests, found)


def asked_at(powers, step):
    """The tuples at which a row of a step is asked for the value that tells it."""
    maker = powers[1 % len(powers)]
    if step == 1:
        return [(maker,)]
    if step == 2:
        return [(power, maker) for power in powers]
    if step == 3:
        return [(maker, power, maker) for power in powers]
    return [(power, maker, other, maker) for power in powers for other in powers]


def round_value(floor, step, row):
    """The value that tells a closed row."""
    maker = need_round(floor)
    need_step(step, 1, MOST_ROUND_STEP)
    need_row(floor, step, row)
    need_asked(floor, step)
    need_closed(floor, step, row)
    total = (0,) * floor.places
    for members in asked_at(powers_of(floor.group, maker), step):
        if members in row:
            total = sum_of_values(floor.rests, total, 1, row[members])
    return short_value(total)


def size_quotient(floor):
    """The product of the list of even steps, divided by that of odd steps, in lowest terms."""
    need_round(floor)
    top, bottom = 1, 1
    for size in sums_list(floor, True):
        top = top * size
    for size in sums_list(floor, False):
        bottom = bottom * size
    divisor = gcd(top, bottom)
    return top // divisor, bottom // divisor
