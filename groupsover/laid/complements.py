"""Pairs of a value and a member, and complements: a pair above each member, with all products."""

from groupsover.base.checks import is_integer, need_short
from groupsover.base.floors import need_floor, need_value
from groupsover.base.groups import is_member, order_of
from groupsover.base.reckoning import has_value, led_value, order_of_value, reduced, short_value, sum_of_values
from groupsover.errors import InvalidNumber, InvalidOperation, TooMany
from groupsover.rows.classes import CleanSpots, change_echelon, closed_pivots
from groupsover.rows.plain import sum_of_rows
from groupsover.rows.rows import need_closed, need_row
from groupsover.rows.solving import Changes, deciding_number

MOST_COMPLEMENTS = 2000
MOST_UNKNOWN = 300


def has_pair(floor, value):
    """Whether the value is a pair of a value of the floor and a member of its group."""
    if not isinstance(value, tuple) or len(value) != 2:
        return False
    return has_value(floor.rests, value[0]) and is_member(floor.group, value[1])


def need_pair(floor, value):
    """Refuse what is no pair."""
    if not has_pair(floor, value):
        raise InvalidOperation("this is no pair of the floor")


def short_pair(pair):
    """The pair, unless it has too long an integer."""
    need_short(pair[0])
    return pair


def is_pair(floor, value):
    """Whether the value is a pair."""
    need_floor(floor)
    return has_pair(floor, value)


def pair_product(floor, one, other):
    """The product of two pairs."""
    need_floor(floor)
    need_pair(floor, one)
    need_pair(floor, other)
    return short_pair(joined_pair(floor, one, other))


def joined_pair(floor, one, other):
    """The product of two pairs, however long its integers are."""
    moved = led_value(floor.rests, floor.tables[one[1]], other[0])
    return sum_of_values(floor.rests, one[0], 1, moved), floor.group.all_products[one[1]][other[1]]


def pair_inverse(floor, one):
    """The pair that undoes a pair."""
    need_floor(floor)
    need_pair(floor, one)
    back = floor.group.all_inverses[one[1]]
    return short_pair((reduced(floor.rests, [-entry for entry in led_value(floor.rests, floor.tables[back], one[0])]),
                       back))


def pair_power(floor, one, number):
    """The product of so many times the pair; of its inverse for numbers below 0."""
    need_floor(floor)
    need_pair(floor, one)
    if not is_integer(number):
        raise InvalidNumber(number)
    order = order_of(floor.group.all_products, one[1])
    value, member = plain_power(floor, one, number % order)
    # the powers by multiples of the member's order are values alone, and values are simply added
    turn = plain_power(floor, one, order)[0]
    return short_pair((sum_of_values(floor.rests, value, number // order, turn), member))


def plain_power(floor, one, number):
    """The product of so many times the pair, by as many products."""
    power = ((0,) * floor.places, 0)
    for _ in range(number):
        power = joined_pair(floor, power, one)
    return power


def pair_order(floor, one):
    """The least power from 1 on that is the pair of zeros, 0 if there is none."""
    need_floor(floor)
    need_pair(floor, one)
    order = order_of(floor.group.all_products, one[1])
    return order * order_of_value(floor.rests, plain_power(floor, one, order)[0])


def has_complement(floor, value):
    """Whether the value is a complement."""
    group = floor.group
    if not isinstance(value, tuple) or len(value) != group.size:
        return False
    if not all([has_value(floor.rests, entries) for entries in value]):
        return False
    return all([joined_pair(floor, (value[one], one), (value[other], other))[0] == value[group.all_products[one][other]]
                for one in range(group.size) for other in range(group.size)])


def need_complement(floor, value):
    """Refuse what is no complement."""
    if not has_complement(floor, value):
        raise InvalidOperation("this is no complement of the floor")


def is_complement(floor, value):
    """Whether the value is a complement."""
    need_floor(floor)
    return has_complement(floor, value)


def row_of_pairs(one):
    """The 1-row of a complement."""
    return {(member,): entries for member, entries in enumerate(one) if any(list(entries))}


def pairs_of_row(floor, row):
    """The values of a 1-row, one for each member."""
    return tuple([row.get((member,), (0,) * floor.places) for member in range(floor.group.size)])


def complement_row(floor, one):
    """The closed 1-row of a complement."""
    need_floor(floor)
    need_complement(floor, one)
    return row_of_pairs(one)


def row_complement(floor, row):
    """The complement of a closed 1-row."""
    need_floor(floor)
    need_row(floor, 1, row)
    need_closed(floor, 1, row)
    return pairs_of_row(floor, row)


class Choices:
    """All complements of a finite floor, as sums of closed clean 1-rows, each so many times."""

    def __init__(self, floor):
        self.told_floor = floor
        self.number = deciding_number(floor)
        self.spots = CleanSpots(floor, 1)
        pivots = closed_pivots(floor, 1, self.number)
        rests = self.spots.rests_of()
        self.rows = [pivots[lead] for lead in sorted(pivots, reverse=True)]
        self.times = [rests[lead] // pivots[lead][lead] for lead in sorted(pivots, reverse=True)]

    def how_many(self):
        """How many complements there are."""
        many = 1
        for times in self.times:
            many = many * times
        return many

    def complement(self, entries):
        """The complement with some entries."""
        return pairs_of_row(self.told_floor, self.spots.row_of(entries))

    def all_entries(self):
        """The entries of all complements."""
        found = [{}]
        for row, times in zip(self.rows, self.times):
            found = [self.with_row(entries, number, row) for entries in found for number in range(times)]
        return found

    def with_row(self, entries, number, row):
        """Some entries, and so many times those of a row."""
        columns = list(entries) + list(row)
        return {column: entries.get(column, 0) + number * row.get(column, 0) for column in columns}


def choices_of(floor):
    """All complements of a finite floor that has not too many integers to choose."""
    need_floor(floor)
    if not floor.is_finite:
        raise InvalidOperation("the floor is not finite")
    if (floor.group.size - 1) ** 2 * floor.places > MOST_UNKNOWN:
        raise TooMany(MOST_UNKNOWN)
    return Choices(floor)


def few_choices_of(floor):
    """All complements of a finite floor that has not too many of them."""
    choices = choices_of(floor)
    if choices.how_many() > MOST_COMPLEMENTS:
        raise TooMany(MOST_COMPLEMENTS)
    return choices


def complements_number(floor):
    """How many complements a finite floor has."""
    return choices_of(floor).how_many()


def complements(floor):
    """All complements of a finite floor, ascending."""
    choices = few_choices_of(floor)
    found = sorted([choices.complement(entries) for entries in choices.all_entries()])
    for one in found:
        yield one


def moved_pairs(floor, one, value):
    """What a value makes of a complement, however long its integers are."""
    rests, tables = floor.rests, floor.tables
    return tuple([sum_of_values(rests, sum_of_values(rests, entries, 1, value), -1, led_value(rests, table, value))
                  for entries, table in zip(one, tables)])


def moved_complement(floor, one, value):
    """The complement of the pairs that the pair of a value, and then its inverse, make of those of one."""
    need_floor(floor)
    need_complement(floor, one)
    need_value(floor, value)
    return tuple([short_value(entries) for entries in moved_pairs(floor, one, value)])


def mover(floor, one, other):
    """A value that moves the first complement to the other one, None if there is none."""
    need_floor(floor)
    need_complement(floor, one)
    need_complement(floor, other)
    difference = sum_of_rows(floor.rests, row_of_pairs(one), -1, row_of_pairs(other))
    source = Changes(floor, 1).source(difference)
    return None if source is None else short_value(source.get((), (0,) * floor.places))


def is_mover(floor, one, other, value):
    """Whether the value moves the first complement to the other one."""
    need_floor(floor)
    need_complement(floor, one)
    need_complement(floor, other)
    return has_value(floor.rests, value) and moved_pairs(floor, one, value) == other


def complement_lots(floor):
    """The ascending tuple of the least complement of each lot."""
    choices = few_choices_of(floor)
    changes = change_echelon(floor, 1, choices.number)
    # the greatest columns are the first values, so the least entries are those of the least complement
    return tuple(sorted({choices.complement(changes.least_like(entries)) for entries in choices.all_entries()}))
