"""Floors carried up, and floors side by side: points 0.16 and 12.1 to 12.7."""

import random
import unittest
from math import gcd, lcm

from examples import (C1, C2, C3, C4, C6, LONGEST, MIXED, NO_FLOORS, NO_GROUPS, NO_NUMBERS, NO_PARTS, PLANE, Refusals,
                      S3, SIGN, SWAP, TOO_LONG, TWIST, V4, WALL, WRONG, Z2, Z3, ZS, regular, slow_change, some_row,
                      tuples_of, wrong_rows)
from groupsover.base.floors import Floor, floor_sum, is_floor_map, mapped, seen_floor
from groupsover.base.groups import Group, coset_leaders, group_parts, part_group
from groupsover.base.tables import list_of
from groupsover.carried.carried import (carried_floor, carried_row, folded_table, joined_list, joined_row, parted_row,
                                        seen_at_one, spread_table)
from groupsover.errors import InvalidFloor, InvalidGroup, InvalidNumber, InvalidOperation, InvalidRow, TooMany
from groupsover.ladders.ladders import bar_ladder, ladder_list
from groupsover.rows.closed import class_list, class_makers, is_closed, source_of
from groupsover.rows.rows import is_row, mapped_row, row_sum, row_times
from groupsover.seen.parts import carried_back, seen_row


def carried_cases():
    """Groups, parts of them, and floors over the parts, that can be carried up."""
    found = []
    for group in (C1, C2, C4, V4, S3, C6):
        for part in group_parts(group):
            inner = part_group(group, part)
            rests = [(0,), (4,), (0, 6)]
            for floor in [Floor.still(inner, one) for one in rests]:
                found.append((group, part, floor))
            if inner.size == 2:
                found.append((group, part, Floor.made(inner, (0,), {1: ((-1,),)})))
                found.append((group, part, Floor.made(inner, (0, 4), {1: ((-1, 0), (1, 1))})))
            if inner.size == 3:
                found.append((group, part, Floor.made(inner, (0, 0), {1: ((0, -1), (1, -1))})))
    return [(group, part, floor) for group, part, floor in found
            if group.size // len(part) * floor.places <= 12]


CASES = carried_cases()
FLOORS = (ZS, SWAP, MIXED, TWIST, Z2, PLANE, SIGN, WALL, Floor.still(V4, (0, 4)), Floor.still(S3, (6,)), regular(C2, 3))


def slow_carried_value(group, part, floor, member, value):
    """What a member makes of a value of a carried floor, by its words."""
    leaders, places = coset_leaders(group, part), floor.places
    found = ()
    for c in leaders:
        moved = group.product(c, member)
        u, d = [(u, d) for u in part for d in leaders if group.product(u, d) == moved][0]
        at = leaders.index(d)
        found += floor.moved(part.index(u), value[places * at:places * (at + 1)])
    return found


def some_value(floor, seed):
    """A value, always the same one for a seed."""
    return some_row(floor, 0, 9, seed).get((), (0,) * floor.places)


def steps_for(group, most):
    """The steps whose changes have at most so many tuples."""
    return [step for step in range(4) if group.size ** (step + 1) <= most]


def some_closed(floor, step, seed):
    """A closed row: a change, and some of the makers."""
    row = slow_change(floor, step - 1, some_row(floor, step - 1, 5, seed))
    if (floor.group.size - 1) ** (step + 1) * floor.places <= 300:
        for times, maker in enumerate(class_makers(floor, step), seed):
            row = row_sum(floor, step, row, row_times(floor, step, times, maker))
    return row


class CarriedFloorTest(Refusals, unittest.TestCase):
    def test_values_are_moved_by_words(self):
        for group, part, floor in CASES:
            found = carried_floor(group, part, floor)
            many = group.size // len(part)
            self.assertEqual((found.group, found.rests), (group, floor.rests * many))
            # it is a floor with just these tables
            self.assertEqual(Floor(group, found.rests, found.tables), found)
            for seed in range(3):
                value = some_value(found, seed)
                for member in group:
                    self.assertEqual(found.moved(member, value),
                                     slow_carried_value(group, part, floor, member, value))
        self.assertEqual(carried_floor(C2, (0,), Floor.still(part_group(C2, (0,)), (0,))), SWAP)

    def test_lists_are_those_of_the_floor(self):
        for group, part, floor in CASES:
            found = carried_floor(group, part, floor)
            for step in range(4):
                if (group.size - 1) ** (step + 1) * found.places <= 300:
                    self.assertEqual(class_list(found, step), class_list(floor, step))
        up = carried_floor(V4, (0, 1), Floor.still(part_group(V4, (0, 1)), (2,)))
        self.assertEqual([ladder_list(bar_ladder(V4, 3), up, step) for step in range(3)], [(2,), (2,), (2,)])

    def test_wrong_arguments(self):
        group, part = S3, (0, 1)
        floor = Floor.still(part_group(S3, (0, 1)), (0,))
        no_floors = NO_FLOORS + (Floor.still(C3, (0,)), Floor.still(S3, (0,)))
        wrongs = [(0, NO_GROUPS, InvalidGroup), (1, NO_PARTS, InvalidGroup), (2, no_floors, InvalidFloor)]
        self.refuse_in_order(carried_floor, (group, part, floor), wrongs)
        up = carried_floor(group, part, floor)
        self.refuse_in_order(seen_at_one, (group, part, floor, 1, {}), wrongs + [
            (3, NO_NUMBERS + (-1, 5), InvalidNumber), (4, wrong_rows(up, 1), InvalidRow)])
        self.refuse_in_order(carried_row, (group, part, floor, 1, {}), wrongs + [
            (3, NO_NUMBERS + (-1, 5), InvalidNumber), (4, wrong_rows(floor, 1), InvalidRow)])
        self.refuse_in_order(spread_table, (ZS, (0,)), [(0, NO_FLOORS, InvalidFloor), (1, NO_PARTS, InvalidGroup)])
        self.refuse_in_order(folded_table, (ZS, (0,)), [(0, NO_FLOORS, InvalidFloor), (1, NO_PARTS, InvalidGroup)])
        # a floor over an equal group, but not over that of the part
        self.refused(InvalidFloor, carried_floor, C4, (0, 2), Floor.still(C2, (0,)))
        self.assertEqual(carried_floor(C4, (0, 2), Floor.still(part_group(C4, (0, 2)), (0,))).places, 2)

    def test_twelve_places(self):
        edge, great = Group.round(12), Group.round(13)
        first = part_group(edge, (0,))
        self.assertEqual(carried_floor(edge, (0,), Floor.still(first, (2,))).places, 12)
        floor = Floor.still(part_group(great, (0,)), (2,))
        self.refused(TooMany, carried_floor, great, (0,), floor, limit=12)
        self.refused(TooMany, carried_floor, edge, (0,), Floor.still(first, (2, 2)), limit=12)
        # ahead of the row for what is seen, behind it for what is carried
        self.refused(TooMany, seen_at_one, great, (0,), floor, 1, None, limit=12)
        self.refused(InvalidNumber, seen_at_one, great, (0,), floor, 5, None, given=5)
        self.refused(InvalidRow, carried_row, great, (0,), floor, 1, None)
        self.refused(TooMany, carried_row, great, (0,), floor, 4, {}, limit=12)
        self.refused(TooMany, spread_table, Floor.still(great, (2,)), (0,), limit=12)
        self.refused(TooMany, folded_table, Floor.still(great, (2,)), (0,), limit=12)
        self.assertEqual(len(spread_table(Floor.still(edge, (2,)), (0,))), 12)

    def test_too_many_tuples_of_the_whole_group(self):
        group = Group.round(18)
        part = (0, 2, 4, 6, 8, 10, 12, 14, 16)
        floor = Floor.still(part_group(group, part), (0,))
        self.refused(TooMany, seen_at_one, group, part, floor, 2, {}, limit=5000)
        self.refused(TooMany, carried_row, group, part, floor, 2, {(1, 1): (1,)}, limit=5000)
        self.refused(InvalidRow, seen_at_one, group, part, floor, 2, {(1, 1): (1,)})
        self.refused(InvalidRow, carried_row, group, part, floor, 2, {(1, 9): (1,)})
        small = Group.round(16)
        part = tuple(range(0, 16, 2))
        floor = Floor.still(part_group(small, part), (0,))
        self.assertEqual(seen_at_one(small, part, floor, 2, carried_row(small, part, floor, 2, {(1, 1): (LONGEST,)})),
                         {(1, 1): (LONGEST,)})


class CarriedRowTest(Refusals, unittest.TestCase):
    def test_rows_by_words(self):
        for group, part, floor in CASES:
            up, leaders, zero = carried_floor(group, part, floor), coset_leaders(group, part), (0,) * floor.places
            for step in steps_for(group, 220):
                row = some_row(floor, step, 9, step + 1)
                found = carried_row(group, part, floor, step, row)
                wanted = {}
                for members in tuples_of(group, step):
                    value = ()
                    for leader in leaders:
                        last, told = leader, []
                        for member in members:
                            moved = group.product(last, member)
                            u, last = [(u, d) for u in part for d in leaders if group.product(u, d) == moved][0]
                            told.append(part.index(u))
                        value += row.get(tuple(told), zero)
                    if any(value):
                        wanted[members] = value
                self.assertEqual(found, wanted)
                self.assertEqual(list(found), sorted(found))
                self.assertTrue(is_row(up, step, found))
                self.assertEqual(seen_at_one(group, part, floor, step, found), row)

    def test_both_go_along_with_changes(self):
        for group, part, floor in CASES:
            up = carried_floor(group, part, floor)
            for step in steps_for(group, 40):
                row = some_row(floor, step, 9, step + 5)
                self.assertEqual(slow_change(up, step, carried_row(group, part, floor, step, row)),
                                 carried_row(group, part, floor, step + 1, slow_change(floor, step, row)))
                above = some_row(up, step, 9, step + 6)
                seen = seen_at_one(group, part, floor, step, above)
                for members in tuples_of(floor.group, step):
                    value = above.get(tuple(part[at] for at in members), (0,) * up.places)[:floor.places]
                    self.assertEqual(seen.get(members, (0,) * floor.places), value)
                self.assertEqual(list(seen), sorted(seen))
                self.assertEqual(slow_change(floor, step, seen),
                                 seen_at_one(group, part, floor, step + 1, slow_change(up, step, above)))

    def test_classes(self):
        for group, part, floor in CASES:
            up = carried_floor(group, part, floor)
            for step in steps_for(group, 220)[1:]:
                for seed in (1, 2):
                    row = some_closed(up, step, seed)
                    seen = seen_at_one(group, part, floor, step, row)
                    self.assertTrue(is_closed(floor, step, seen))
                    self.assertEqual(source_of(up, step, row) is None, source_of(floor, step, seen) is None)
                    if part == (0,):
                        self.assertIsNotNone(source_of(up, step, row))


class SpreadTest(unittest.TestCase):
    def test_spread_and_folded_tables(self):
        for floor in FLOORS:
            group = floor.group
            for part in group_parts(group):
                many = group.size // len(part)
                if many * floor.places > 12:
                    continue
                seen = seen_floor(floor, part)
                up = carried_floor(group, part, seen)
                spread, folded = spread_table(floor, part), folded_table(floor, part)
                self.assertTrue(is_floor_map(floor, up, spread))
                self.assertTrue(is_floor_map(up, floor, folded))
                leaders = coset_leaders(group, part)
                for seed in range(3):
                    x = some_value(floor, seed)
                    v = mapped(floor, up, spread, x)
                    self.assertEqual(v, sum([floor.moved(c, x) for c in leaders], ()))
                    self.assertEqual(mapped(up, floor, folded, v), floor.repeated(many, x))
                    v, total = some_value(up, seed + 3), (0,) * floor.places
                    for at, c in enumerate(leaders):
                        part_of = v[floor.places * at:floor.places * (at + 1)]
                        total = floor.added(total, floor.moved(group.inverse(c), part_of))
                    self.assertEqual(mapped(up, floor, folded, v), total)
                for step in steps_for(group, 40):
                    row = some_row(seen, step, 9, step)
                    self.assertEqual(mapped_row(up, floor, folded, step, carried_row(group, part, seen, step, row)),
                                     carried_back(floor, part, step, row))
                    row = some_row(floor, step, 9, step + 7)
                    self.assertEqual(seen_at_one(group, part, seen, step, mapped_row(floor, up, spread, step, row)),
                                     seen_row(floor, part, step, row))


class JoinedTest(Refusals, unittest.TestCase):
    def test_joined_lists(self):
        source = random.Random(7)
        lists = [(), (0,), (2,), (2, 2), (2, 4, 0), (3, 6, 0, 0), (5,), (4, 12, 12), (2, 6, 30, 0)]
        for _ in range(40):
            sizes = tuple(source.choice((1, 2, 3, 4, 6, 8, 9, 12, 25, 0)) for _ in range(source.randint(0, 6)))
            lists.append(list_of(sizes))
        for one in lists:
            for other in lists[::3]:
                self.assertEqual(joined_list(one, other), list_of(one + other))
        long, many = (2,) * 100 + (6,) * 60 + (0,) * 40, (3,) * 150 + (30,) * 49 + (0,)
        found = joined_list(long, many)
        self.assertEqual(found, joined_list(many, long))
        self.assertEqual(found.count(0), 41)
        number = 1
        for size in found:
            number *= size or 1
        self.assertEqual(number, 2 ** 100 * 6 ** 60 * 3 ** 150 * 30 ** 49)
        for lower, upper in zip(found, found[1:]):
            self.assertEqual(upper % lower if lower else upper, 0)
        self.assertEqual(joined_list((LONGEST,), (LONGEST - 2,)),
                         tuple(size for size in (gcd(LONGEST, LONGEST - 2), lcm(LONGEST, LONGEST - 2)) if size > 1))
        self.assertEqual(joined_list((0,) * 200, (0,) * 200), (0,) * 400)

    def test_wrong_lists(self):
        wrong = tuple(value for value in WRONG if value != ()) + (
            (1,), (-2,), (2, 3), (4, 2), (0, 2), (2, 0, 2), (True,), [2], ("2",), (2, None), (TOO_LONG,), ((2,),),
            (2,) * 201, (0,) * 201, C2, ZS, (False,))
        self.refuse_in_order(joined_list, ((2,), (4,)), [(0, wrong, InvalidOperation), (1, wrong, InvalidOperation)])
        self.assertEqual(len(joined_list((2,) * 200, ())), 200)

    def test_lists_of_sums(self):
        for one in FLOORS:
            for other in FLOORS:
                if one.group == other.group:
                    both = floor_sum(one, other)
                    for step in range(4):
                        if (one.group.size - 1) ** (step + 1) * both.places <= 300:
                            self.assertEqual(class_list(both, step),
                                             joined_list(class_list(one, step), class_list(other, step)))

    def test_rows_side_by_side(self):
        for one in FLOORS:
            for other in FLOORS:
                if one.group != other.group:
                    continue
                both = floor_sum(one, other)
                for step in steps_for(one.group, 40):
                    left, right = some_row(one, step, 9, 1), some_row(other, step, 9, 2)
                    found = joined_row(one, other, step, left, right)
                    self.assertEqual(list(found), sorted(found))
                    self.assertTrue(is_row(both, step, found))
                    for members in tuples_of(one.group, step):
                        self.assertEqual(found.get(members, (0,) * both.places),
                                         left.get(members, (0,) * one.places) + right.get(members, (0,) * other.places))
                    self.assertEqual(parted_row(one, other, step, found), (left, right))
                    for told in parted_row(one, other, step, found):
                        self.assertEqual(list(told), sorted(told))
                    self.assertEqual(slow_change(both, step, found),
                                     joined_row(one, other, step + 1, slow_change(one, step, left),
                                                slow_change(other, step, right)))
                for step in steps_for(one.group, 40)[1:]:
                    left, right = some_closed(one, step, 1), some_closed(other, step, 2)
                    found = joined_row(one, other, step, left, right)
                    self.assertTrue(is_closed(both, step, found))
                    self.assertEqual(source_of(both, step, found) is not None,
                                     source_of(one, step, left) is not None and source_of(other, step, right) is not None)

    def test_wrong_arguments(self):
        no_steps = NO_NUMBERS + (-1, 5)
        self.refuse_in_order(joined_row, (ZS, Z2, 1, {}, {}), [
            (0, NO_FLOORS, InvalidFloor), (1, NO_FLOORS, InvalidFloor), (2, no_steps, InvalidNumber),
            (3, wrong_rows(ZS, 1), InvalidRow), (4, wrong_rows(Z2, 1), InvalidRow)])
        self.refuse_in_order(parted_row, (ZS, Z2, 1, {}), [
            (0, NO_FLOORS, InvalidFloor), (1, NO_FLOORS, InvalidFloor), (2, no_steps, InvalidNumber),
            (3, wrong_rows(floor_sum(ZS, Z2), 1), InvalidRow)])
        self.refused(InvalidOperation, joined_row, ZS, Z3, None, None, None)
        self.refused(InvalidOperation, parted_row, ZS, Z3, None, None)
        # rows of both are told ahead of sums that are too great, and a row of the sum behind them
        seven, six = Floor.still(C2, (0,) * 7), Floor.still(C2, (0,) * 6)
        self.refused(InvalidRow, joined_row, seven, six, 1, {}, None)
        self.refused(TooMany, joined_row, seven, six, 1, {}, {}, limit=12)
        self.refused(TooMany, parted_row, seven, six, 1, None, limit=12)
        self.assertEqual(joined_row(six, six, 1, {}, {(1,): (0,) * 5 + (1,)}), {(1,): (0,) * 11 + (1,)})
        one, other = Floor.still(C2, (100,)), Floor.still(C2, (101,))
        self.refused(TooMany, joined_row, one, other, 1, {}, {}, limit=10000)
        self.refused(TooMany, parted_row, one, other, 1, None, limit=10000)
        self.assertEqual(parted_row(one, Floor.still(C2, (99, 100)), 1, {(1,): (99, 0, 7)}), ({(1,): (99,)}, {(1,): (0, 7)}))
        great = Floor.still(Group.round(18), (0,))
        self.refused(TooMany, joined_row, great, great, 2, {}, {}, limit=5000)
        self.refused(TooMany, parted_row, great, great, 2, {(1, 1): (1, 1)}, limit=5000)
        self.refused(InvalidRow, parted_row, great, great, 2, {(1, 1): (1,)})
        self.refused(InvalidRow, joined_row, great, great, 2, {}, {(1,): (1,)})
        self.assertEqual(parted_row(ZS, Floor.still(C2, (0,)), 0, {(): (0, LONGEST)}), ({}, {(): (LONGEST,)}))


class NotTrueTest(unittest.TestCase):
    def test_the_list_of_a_carried_floor_is_no_multiple(self):
        up = carried_floor(C2, (0,), Floor.still(part_group(C2, (0,)), (0,)))
        self.assertEqual(class_list(up, 2), ())
        self.assertEqual(class_list(Floor.still(part_group(C2, (0,)), (0,)), 2), ())
        self.assertEqual(class_list(up, 0), (0,))

    def test_a_floor_that_is_led_without_loss_is_not_carried(self):
        # the still floor is led into the one carried up from (0,), but its classes are not all 0
        floor = Floor.still(C2, (0,))
        up = carried_floor(C2, (0,), seen_floor(floor, (0,)))
        self.assertTrue(is_floor_map(floor, up, spread_table(floor, (0,))))
        self.assertEqual(mapped(floor, up, spread_table(floor, (0,)), (3,)), (3, 3))
        self.assertEqual(class_list(floor, 2), (2,))


if __name__ == "__main__":
    unittest.main()
