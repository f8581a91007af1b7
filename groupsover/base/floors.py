"""Floors: whole numbers and rests on which a group works."""

from groupsover.base.checks import is_integer, is_within
from groupsover.base.diagonals import sizes_modulo
from groupsover.base.groups import few_makers, is_member, need_group, need_member, need_part, part_group
from groupsover.base.reckoning import has_value, is_keeping, joined_table, led_value, multiple_of, reduced
from groupsover.base.reckoning import reduced_table, short_value, sum_of_values, unit_of
from groupsover.base.same_maps import need_few_tables, one_to_one_tables
from groupsover.errors import InvalidFloor, InvalidMap, InvalidNumber, InvalidOperation, InvalidRow, InvalidTable
from groupsover.errors import TooMany

MAX_FLOOR_PLACES = 12
MAX_REST = 1000
MAX_MULTIPLE = 10000
MOST_MAPS = 256


class Floor:
    """A group, a rest for each place, and a table for each member."""

    def __init__(self, group, rests, tables):
        need_group(group)
        need_rests(rests)
        if not isinstance(tables, tuple) or len(tables) != group.size:
            raise InvalidTable("a floor takes a table for each member of its group")
        if not all([is_keeping(table, rests, rests) for table in tables]):
            raise InvalidTable("each table has a row for each place, and keeps the rests")
        self._take(group, rests, tuple([reduced_table(rests, table) for table in tables]))
        if not are_working(group, rests, self._tables):
            raise InvalidFloor("the tables do not go along with the products of the members")

    def _take(self, group, rests, tables):
        """Take tables that are known to make a floor."""
        self._group = group
        self._rests = rests
        self._tables = tables

    @property
    def group(self):
        """The group that works on the floor."""
        return self._group

    @property
    def rests(self):
        """The rest of each place, 0 for whole numbers."""
        return self._rests

    @property
    def tables(self):
        """The table of each member."""
        return self._tables

    @property
    def places(self):
        """How many places there are."""
        return len(self._rests)

    @property
    def is_whole(self):
        """Whether all places hold whole numbers."""
        return not any(list(self._rests))

    @property
    def is_finite(self):
        """Whether no place holds whole numbers."""
        return all(list(self._rests))

    @property
    def floor_size(self):
        """How many values there are, 0 for a floor that is not finite."""
        size = 1
        for rest in self._rests:
            size = size * rest
        return size

    def moved(self, member, value):
        """What the member makes of the value."""
        need_member(self._group, member)
        need_value(self, value)
        return short_value(led_value(self._rests, self._tables[member], value))

    def added(self, value, further):
        """The sum of two values."""
        need_value(self, value)
        need_value(self, further)
        return short_value(sum_of_values(self._rests, value, 1, further))

    def subtracted(self, value, further):
        """The difference of two values."""
        need_value(self, value)
        need_value(self, further)
        return short_value(sum_of_values(self._rests, value, -1, further))

    def repeated(self, number, value):
        """So many times the value."""
        if not is_integer(number):
            raise InvalidNumber(number)
        need_value(self, value)
        return short_value(reduced(self._rests, [number * entry for entry in value]))

    @classmethod
    def still(cls, group, rests):
        """The floor on which each member leaves each value."""
        need_group(group)
        need_rests(rests)
        return cls(group, rests, (unit_of(rests),) * group.size)

    @classmethod
    def made(cls, group, rests, makers):
        """The floor that is made by the tables of some members."""
        need_group(group)
        need_rests(rests)
        need_makers(group, rests, makers)
        tables = spread_tables(group, rests, makers)
        if not all([reduced_table(rests, makers[maker]) == tables[maker] for maker in makers]):
            raise InvalidFloor("the tables do not go along with the products of the members")
        if not are_working(group, rests, tables):
            raise InvalidFloor("the tables do not go along with the products of the members")
        # what is made may have longer integers than can be passed, so it is settled behind the checks
        floor = cls.still(group, rests)
        floor._take(group, rests, tables)
        return floor

    def __eq__(self, other):
        return (isinstance(other, Floor) and self._group == other._group and self._rests == other._rests
                and self._tables == other._tables)

    def __str__(self):
        return f"floor of {len(self._rests)} places over {len(self._tables)} members"


def need_floor(floor):
    """Refuse what is no floor."""
    if not isinstance(floor, Floor):
        raise InvalidFloor("this is no floor")


def need_rests(rests):
    """Refuse what cannot be the rests of a floor."""
    if not isinstance(rests, tuple) or not 1 <= len(rests) <= MAX_FLOOR_PLACES:
        raise InvalidFloor("a floor has one to twelve rests")
    if not all([is_within(rest, 0, MAX_REST) and rest != 1 for rest in rests]):
        raise InvalidFloor("a rest is 0, or from 2 to 1000")
    if multiple_of(rests) > MAX_MULTIPLE:
        raise InvalidFloor("the rests have too great a multiple")


def need_makers(group, rests, makers):
    """Refuse what is no dict from members that make the group to tables."""
    if not isinstance(makers, dict) or not all([is_member(group, maker) for maker in makers]):
        raise InvalidTable("a floor is made by a dict from members to tables")
    if not all([is_keeping(table, rests, rests) for table in makers.values()]):
        raise InvalidTable("each table has a row for each place, and keeps the rests")
    if len(spread_order(group, makers)) != group.size:
        raise InvalidTable("the members do not make the group")


def need_value(floor, value):
    """Refuse what is no value of the floor."""
    if not has_value(floor.rests, value):
        raise InvalidRow("this is no value of the floor")


def are_working(group, rests, tables):
    """Whether 0 leaves each value, and the tables go along with products."""
    if tables[0] != unit_of(rests):
        return False
    # what goes along with all products with makers goes along with all products
    makers = few_makers(group)
    return all([tables[group.all_products[member][maker]] == joined_table(rests, tables[member], tables[maker])
                for member in range(group.size) for maker in makers])


def spread_order(group, makers):
    """For each member but 0 a pair of a member ahead of it and a maker, whose product it is."""
    found = {0: (0, 0)}
    waiting = [0]
    while waiting:
        known = waiting.pop()
        for maker in makers:
            further = group.all_products[known][maker]
            if further not in found:
                found[further] = (known, maker)
                waiting.append(further)
    return found


def spread_tables(group, rests, makers):
    """The tables that makers lead to, the first way that is found to each member being taken."""
    order = spread_order(group, sorted(makers))
    tables = {0: unit_of(rests)}
    for member in order:
        known, maker = order[member]
        if member:
            tables[member] = joined_table(rests, tables[known], makers[maker])
    return tuple([tables[member] for member in range(group.size)])


def is_floor_value(floor, value):
    """Whether the value is a member of the floor."""
    need_floor(floor)
    return has_value(floor.rests, value)


def fixed_list(floor):
    """The list of the values that all members leave."""
    need_floor(floor)
    whole = [place for place in range(floor.places) if not floor.rests[place]]
    # what the members leave of all whole numbers is as wide as their tables' mean trace
    traces = sum([table[place][place] for table in floor.tables for place in whole])
    return fixed_rests(floor) + (0,) * (traces // floor.group.size)


def fixed_rests(floor):
    """The list of the values with 0 at all whole places that all members leave.

    It is that of the sums of ratios on them, modulo what a member makes of one, less this one.
    """
    rests = floor.rests
    finite = [place for place in range(floor.places) if rests[place]]
    rows = [[rests[place] if place == column else 0 for column in finite] for place in finite]
    for maker in few_makers(floor.group):
        table = floor.tables[maker]
        rows.extend([[table[place][column] * rests[column] // rests[place] - (1 if place == column else 0)
                      for column in finite] for place in finite])
    sizes = sizes_modulo(rows, len(finite), multiple_of(rests))
    return tuple([size for size in sizes if size > 1])


def need_like_floors(floor, further):
    """Refuse two floors unless they are over one group."""
    need_floor(floor)
    need_floor(further)
    if floor.group != further.group:
        raise InvalidOperation("the floors are over unlike groups")


def need_few_joined(floor, further):
    """Refuse two floors with too many places or too great a multiple side by side."""
    if floor.places + further.places > MAX_FLOOR_PLACES:
        raise TooMany(MAX_FLOOR_PLACES)
    if multiple_of(floor.rests + further.rests) > MAX_MULTIPLE:
        raise TooMany(MAX_MULTIPLE)


def floor_sum(floor, further):
    """The floor with the places of both."""
    need_like_floors(floor, further)
    need_few_joined(floor, further)
    return plain_sum(floor, further)


def plain_sum(floor, further):
    """The floor with the places of both, without checks."""
    rests = floor.rests + further.rests
    ahead, behind = (0,) * floor.places, (0,) * further.places
    tables = tuple([tuple([row + behind for row in one]) + tuple([ahead + row for row in other])
                    for one, other in zip(floor.tables, further.tables)])
    return settled_floor(floor.group, rests, tables)


def settled_floor(group, rests, tables):
    """The floor with tables that are known to make one, however long their integers are."""
    floor = Floor.still(group, rests)
    floor._take(group, rests, tables)
    return floor


def seen_floor(floor, part):
    """The floor over a part as a group by itself."""
    need_floor(floor)
    need_part(floor.group, part)
    tables = tuple([floor.tables[member] for member in part])
    return settled_floor(part_group(floor.group, part), floor.rests, tables)


def is_floor_map(floor, further, value):
    """Whether the value is a map from a floor to a further one."""
    need_like_floors(floor, further)
    return is_keeping(value, floor.rests, further.rests) and does_go_along(floor, further, value)


def does_go_along(floor, further, table):
    """Whether a table that keeps the rests goes along with all members."""
    rests = further.rests
    return all([joined_table(rests, table, floor.tables[maker]) == joined_table(rests, further.tables[maker], table)
                for maker in few_makers(floor.group)])


def need_map(floor, further, table):
    """Refuse floors over unlike groups, and what is no map from the one to the further one."""
    if not is_floor_map(floor, further, table):
        raise InvalidMap("this is no map of the floors")


def mapped(floor, further, table, value):
    """The value of the further floor to which a map takes a value."""
    need_map(floor, further, table)
    need_value(floor, value)
    return short_value(led_value(further.rests, table, value))


def same_floor_maps(floor):
    """The ascending tuple of all maps of a finite floor to itself that are one to one."""
    need_floor(floor)
    need_finite(floor)
    need_few_tables(floor.rests, MOST_MAPS)
    rests, turns = floor.rests, turning_tables(floor)
    return tuple([table for table in one_to_one_tables(rests)
                  if all([joined_table(rests, table, turn) == joined_table(rests, turn, table) for turn in turns])])


def need_finite(floor):
    """Refuse a floor that is not finite."""
    if not floor.is_finite:
        raise InvalidOperation("the floor is not finite")


def turning_tables(floor):
    """The tables of few members that a table has to go along with, so that it goes along with all members."""
    # tables of one place always go along with one another
    if floor.places == 1:
        return []
    unit = unit_of(floor.rests)
    return [floor.tables[maker] for maker in few_makers(floor.group) if floor.tables[maker] != unit]
