"""Groups of pairs, laid with a closed 2-row: they contain the floor, and have the group above it."""

from groupsover.base.checks import is_within
from groupsover.base.floors import need_floor, need_value, seen_floor
from groupsover.base.groups import generated_rounds, order_of
from groupsover.base.reckoning import led_value, list_of_values, order_of_value, reduced, sum_of_values
from groupsover.base.same_maps import primes_of
from groupsover.errors import InvalidNumber, InvalidOperation, Refused, TooMany
from groupsover.laid.complements import has_pair, need_pair, short_pair
from groupsover.rows.plain import change_of, seen_entries, sum_of_rows, tidy_row
from groupsover.rows.rows import need_asked, need_closed, need_row, short_row
from groupsover.rows.solving import Changes

MOST_PAIRS = 96
MOST_TIMES = 1000


class Layering:
    """The group of all pairs of a value of a floor and a member above it, joined with a closed 2-row."""

    def __init__(self, floor, row):
        need_floor(floor)
        need_row(floor, 2, row)
        need_asked(floor, 2)
        need_closed(floor, 2, row)
        self._floor = floor
        self._row = tidy_row(row)

    @property
    def base_floor(self):
        """The floor of the values."""
        return self._floor

    @property
    def told_row(self):
        """The closed 2-row."""
        return {members: self._row[members] for members in self._row}

    @property
    def many_pairs(self):
        """How many pairs there are, 0 for a floor that is not finite."""
        return self._floor.floor_size * self._floor.group.size

    @property
    def neutral(self):
        """The pair that changes no other one."""
        return self.told_pair((0,) * self._floor.places)

    def row_value(self, one, other):
        """The value of the row at two members."""
        return self._row.get((one, other), (0,) * self._floor.places)

    def told_pair(self, value):
        """The pair that tells a value, however long its integers are."""
        return sum_of_values(self._floor.rests, value, -1, self.row_value(0, 0)), 0

    def plainly_joined(self, left, right):
        """Two pairs joined, however long their integers are."""
        floor = self._floor
        moved = led_value(floor.rests, floor.tables[left[1]], right[0])
        value = sum_of_values(floor.rests, left[0], 1, moved)
        return (sum_of_values(floor.rests, value, 1, self.row_value(left[1], right[1])),
                floor.group.all_products[left[1]][right[1]])

    def told_turn(self, pair):
        """How often a pair is joined with itself until it tells a value for the first time, and this value."""
        order = order_of(self._floor.group.all_products, pair[1])
        power = self.plainly_often(pair, order)
        return order, sum_of_values(self._floor.rests, power[0], 1, self.row_value(0, 0))

    def plainly_often(self, pair, times):
        """A pair joined so many times with itself, one after the other."""
        power = self.neutral
        for _ in range(times):
            power = self.plainly_joined(power, pair)
        return power

    def joined(self, left, right):
        """Two pairs joined."""
        need_pair(self._floor, left)
        need_pair(self._floor, right)
        return short_pair(self.plainly_joined(left, right))

    def undone(self, pair):
        """The pair that is joined to the neutral one with a pair."""
        need_pair(self._floor, pair)
        floor = self._floor
        back = floor.group.all_inverses[pair[1]]
        value = sum_of_values(floor.rests, pair[0], 1, self.row_value(pair[1], back))
        value = sum_of_values(floor.rests, value, 1, self.row_value(0, 0))
        moved = led_value(floor.rests, floor.tables[back], value)
        return short_pair((reduced(floor.rests, [-entry for entry in moved]), back))

    def joined_often(self, pair, times):
        """A pair joined so many times with itself, undone for numbers below 0."""
        need_pair(self._floor, pair)
        if not is_within(times, -MOST_TIMES, MOST_TIMES):
            raise InvalidNumber(times)
        order, value = self.told_turn(pair)
        # all turns together tell a value alone, and it is simply added
        power = self.plainly_often(pair, times % order)
        return short_pair((sum_of_values(self._floor.rests, power[0], times // order, value), power[1]))

    def turns(self, pair):
        """The least number of times from 1 on with which the pair becomes the neutral one, 0 if there is none."""
        need_pair(self._floor, pair)
        order, value = self.told_turn(pair)
        return order * order_of_value(self._floor.rests, value)

    def inside(self, value):
        """The pair that tells a value."""
        need_value(self._floor, value)
        return short_pair(self.told_pair(value))

    def all_pairs(self):
        """The ascending tuple of all pairs."""
        self.need_few_pairs()
        members = list(range(self._floor.group.size))
        return tuple([(value, member) for value in list_of_values(self._floor.rests) for member in members])

    def need_few_pairs(self):
        """Refuse to tell all pairs where there are too many."""
        if not self._floor.is_finite:
            raise Refused(("endless",))
        if self.many_pairs > MOST_PAIRS:
            raise TooMany(MOST_PAIRS)

    def pairs_table(self):
        """For each pair the tuple of the indices of what it is joined to with each pair."""
        self.need_few_pairs()
        floor, size = self._floor, self._floor.group.size
        known = list_of_values(floor.rests)
        index_of = {value: at for at, value in enumerate(known)}
        sums = [[index_of[sum_of_values(floor.rests, value, 1, further)] for further in known] for value in known]
        found = []
        for one in range(size):
            moved = [index_of[led_value(floor.rests, floor.tables[one], value)] for value in known]
            added = [index_of[self.row_value(one, other)] for other in range(size)]
            # what a pair above this member adds to the value of a pair ahead of it
            found.append([(sums[at][more], floor.group.all_products[one][other])
                          for at in moved for other, more in enumerate(added)])
        return tuple([tuple([sums[at][more] * size + member for more, member in found[one]])
                      for at in range(len(known)) for one in range(size)])

    def __contains__(self, x):
        return has_pair(self._floor, x)

    def __eq__(self, other):
        return isinstance(other, Layering) and self._floor == other._floor and self._row == other._row

    def __str__(self):
        return f"laying of {self.many_pairs or 'endless'} pairs over {len(self._floor.group)} members"


def need_layering(layering):
    """Refuse what is no group of pairs."""
    if not isinstance(layering, Layering):
        raise InvalidOperation("this is no laying")


def has_choice(layering, value):
    """Whether the value is a pair above each member."""
    floor = layering.base_floor
    if not isinstance(value, tuple) or len(value) != floor.group.size:
        return False
    return all([has_pair(floor, pair) and pair[1] == member for member, pair in enumerate(value)])


def is_choice(layering, value):
    """Whether the value is a choice of one pair above each member."""
    need_layering(layering)
    return has_choice(layering, value)


def row_of_choice(layering, choice):
    """The 2-row that is left of a choice, however long its integers are."""
    floor = layering.base_floor
    lower = tidy_row({(member,): value for value, member in choice})
    return sum_of_rows(floor.rests, layering.told_row, 1, change_of(floor, 1, lower))


def row_from(layering, choice):
    """The 2-row that tells what the pairs of a choice are joined to but for the pairs of the choice."""
    need_layering(layering)
    if not has_choice(layering, choice):
        raise InvalidOperation("this is no choice of one pair above each member")
    return short_row(row_of_choice(layering, choice))


def split(layering):
    """A choice whose pairs are always joined to pairs of the choice, None if there is none."""
    need_layering(layering)
    floor = layering.base_floor
    source = Changes(floor, 2).source(layering.told_row)
    if source is None:
        return None
    zero = (0,) * floor.places
    return tuple([short_pair((sum_of_values(floor.rests, zero, -1, source.get((member,), zero)), member))
                  for member in range(floor.group.size)])


def is_split(layering, value):
    """Whether the value is a choice whose pairs are always joined to pairs of the choice."""
    need_layering(layering)
    return has_choice(layering, value) and not row_of_choice(layering, value)


def need_whole_layering(layering):
    """Refuse what is no laying over a whole floor."""
    need_layering(layering)
    if not layering.base_floor.is_whole:
        raise InvalidOperation("the floor is not whole")


def finite_pair(layering):
    """A pair other than the neutral one that becomes it after some times, None if there is none."""
    need_whole_layering(layering)
    floor, row = layering.base_floor, layering.told_row
    # some power of such a pair has a prime number of turns, and lies above a member of this order
    for part in generated_rounds(floor.group):
        if primes_of(len(part)) == [len(part)]:
            seen = seen_floor(floor, part)
            source = Changes(seen, 2).source(seen_entries(part, row))
            if source is not None:
                value = source.get((1,), (0,) * floor.places)
                return short_pair((reduced(floor.rests, [-entry for entry in value]), part[1]))
    return None


def is_finite_pair(layering, value):
    """Whether the value is a pair other than the neutral one that becomes it after some times."""
    need_whole_layering(layering)
    if not has_pair(layering.base_floor, value) or value == layering.neutral:
        return False
    return layering.turns(value) != 0
