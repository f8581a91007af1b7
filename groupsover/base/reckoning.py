"""Values and tables of places, each place with its rest."""

from math import gcd, lcm

from groupsover.base.checks import are_integers, need_short


def multiple_of(rests):
    """The least common multiple of all rests other than 0."""
    multiple = 1
    for rest in rests:
        multiple = lcm(multiple, rest or 1)
    return multiple


def is_multiple(number, rest):
    """Whether a number is a multiple of a rest; of 0 only 0 is one."""
    return number % rest == 0 if rest else number == 0


def is_keeping(table, rests, further):
    """Whether a table leads values with some rests to values with further ones."""
    if not isinstance(table, tuple) or len(table) != len(further):
        return False
    if not all([are_integers(row, len(rests)) for row in table]):
        return False
    return all([is_multiple(entry * rest, goal)
                for row, goal in zip(table, further) for entry, rest in zip(row, rests)])


def unit_of(rests):
    """The table that leaves each value."""
    return tuple([tuple([1 if row == column else 0 for column in range(len(rests))]) for row in range(len(rests))])


def reduced(rests, entries):
    """Integers, one for each place, as a value."""
    return tuple([entry % rest if rest else entry for entry, rest in zip(entries, rests)])


def reduced_table(rests, table):
    """A table with the entries of a row modulo its rest."""
    return tuple([tuple([entry % rest if rest else entry for entry in row]) for row, rest in zip(table, rests)])


def joined_table(rests, one, other):
    """The table that leads as the other one does, and then as the first one."""
    columns = list(zip(*other))
    return reduced_table(rests, [[sum([left * right for left, right in zip(row, column)]) for column in columns]
                                 for row in one])


def led_value(rests, table, value):
    """What a table makes of a value, further rests being those of the result."""
    return reduced(rests, [sum([entry * part for entry, part in zip(row, value)]) for row in table])


def sum_of_values(rests, value, times, further):
    """A value, and so many times a further one."""
    return reduced(rests, [entry + times * other for entry, other in zip(value, further)])


def order_of_value(rests, value):
    """The least number from 1 on so many times which the value is 0, or 0 if there is none."""
    if any([entry for entry, rest in zip(value, rests) if not rest]):
        return 0
    order = 1
    for entry, rest in zip(value, rests):
        if rest:
            order = lcm(order, rest // gcd(entry, rest))
    return order


def short_value(value):
    """The value, unless it has too long an integer."""
    need_short(value)
    return value


def has_value(rests, value):
    """Whether the value is one with these rests."""
    return are_integers(value, len(rests)) and all([0 <= entry < rest
                                                    for entry, rest in zip(value, rests) if rest])


def list_of_values(rests):
    """All values with some rests, ascending."""
    found = [()]
    for rest in rests:
        found = [value + (entry,) for value in found for entry in range(rest)]
    return found
