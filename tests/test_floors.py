"""Floors, their values and their maps: points 2.1 to 2.4."""

import time
import unittest
from itertools import product
from math import gcd, lcm

from examples import (C1, C2, C3, C4, C6, E32, LONGEST, MIXED, NO_FLOORS, NO_GROUPS, NO_NUMBERS, PLANE, Refusals, S3,
                      SIGN, SWAP, TOO_LONG, TWIST, V4, WALL, WRONG, Z2, Z3, ZS, orders_in_list, regular, values_of)
from groupsover.base import floors
from groupsover.base.floors import (Floor, fixed_list, floor_sum, is_floor_map, is_floor_value, mapped, same_floor_maps,
                                    seen_floor)
from groupsover.base.groups import Group, group_parts, part_group
from groupsover.errors import InvalidFloor, InvalidGroup, InvalidMap, InvalidNumber, InvalidOperation, InvalidRow
from groupsover.errors import InvalidTable, TooMany

FLOORS = (Z2, Z3, ZS, PLANE, SIGN, WALL, SWAP, MIXED, TWIST, Floor.still(V4, (0, 2, 6)), Floor.still(C1, (5,)))
FINITE = (Z2, Z3, TWIST, regular(C2, 4), regular(C3, 2), Floor.made(S3, (9,), {1: ((-1,),), 2: ((-1,),)}),
          Floor.made(S3, (2, 2), {2: ((0, 1), (1, 0)), 3: ((0, -1), (1, -1))}), Floor.made(C4, (5,), {1: ((2,),)}),
          Floor.still(V4, (2, 6)), Floor.still(C1, (4, 6)))
NEAR_THE_BOUND = (Floor.still(C2, (256,)), Floor.still(C2, (4, 4)), Floor.still(C2, (2, 8)), Floor.still(C2, (3, 5)),
                  Floor.still(C2, (8, 2)), Floor.still(V4, (2, 6)), Floor.still(C3, (243,)), Floor.still(C2, (210,)),
                  Floor.made(C2, (4, 4), {1: ((0, 1), (1, 0))}), Floor.made(C2, (2, 8), {1: ((1, 1), (0, 1))}),
                  Floor.made(S3, (4, 4), {2: ((0, 1), (1, 0)), 3: ((0, -1), (1, -1))}),
                  Floor.made(C2, (2, 8), {1: ((1, 0), (4, 5))}), Floor.made(C2, (256,), {1: ((-1,),)}),
                  Floor.made(C4, (3, 5), {1: ((2, 0), (0, 2))}), Floor.made(C3, (4, 4), {1: ((0, -1), (1, -1))}))
ONE = ((1,),)


def slow_maps(floor):
    """All maps of a finite floor to itself that are one to one, by trying all tables at all values."""
    found, values, units = [], values_of(floor), [tuple(int(k == place) for k in range(floor.places))
                                                  for place in range(floor.places)]
    for table in product(*[list(product(range(rest), repeat=floor.places)) for rest in floor.rests]):
        led = {value: tuple(sum(a * b for a, b in zip(row, value)) % rest for row, rest in zip(table, floor.rests))
               for value in values}
        kept = all(entry * rest % goal == 0 for row, goal in zip(table, floor.rests)
                   for entry, rest in zip(row, floor.rests))
        if kept and len(set(led.values())) == floor.floor_size:
            if all(led[floor.moved(member, unit)] == floor.moved(member, led[unit])
                   for member in floor.group for unit in units):
                found.append(table)
    return tuple(found)


class FloorTest(Refusals, unittest.TestCase):
    def test_the_example(self):
        self.assertEqual([ZS.moved(1, (5,)), fixed_list(ZS), fixed_list(Floor.still(C2, (0, 2))),
                          floor_sum(Z2, ZS).rests, is_floor_map(ZS, Z2, ((1,),)), mapped(ZS, Z2, ((1,),), (5,))],
                         [(-5,), (), (2, 0), (2, 0), True, (1,)])

    def test_constants(self):
        self.assertEqual((floors.MAX_FLOOR_PLACES, floors.MAX_REST, floors.MAX_MULTIPLE), (12, 1000, 10000))

    def test_properties(self):
        self.assertEqual((ZS.group, ZS.rests, ZS.tables, ZS.places), (C2, (0,), (((1,),), ((-1,),)), 1))
        self.assertEqual((ZS.is_whole, ZS.is_finite, ZS.floor_size), (True, False, 0))
        self.assertEqual((TWIST.is_whole, TWIST.is_finite, TWIST.floor_size), (False, True, 8))
        self.assertEqual((MIXED.is_whole, MIXED.is_finite, MIXED.floor_size, MIXED.places), (False, False, 0, 2))
        for floor in FLOORS:
            self.assertIs(floor.is_whole.__class__, bool)
            self.assertIs(floor.is_finite.__class__, bool)
            self.assertEqual(len(floor.tables), floor.group.size)
        with self.assertRaises(AttributeError):
            ZS.rests = (2,)

    def test_entries_are_modulo_the_rest_of_their_row(self):
        floor = Floor(C2, (0, 4), (((1, 0), (-4, 5)), ((-1, 0), (9, -3))))
        self.assertEqual(floor.tables, (((1, 0), (0, 1)), ((-1, 0), (1, 1))))
        self.assertEqual(floor, MIXED)
        self.assertEqual(Floor(C2, (2,), (((LONGEST,),), ((-LONGEST,),))), Z2)

    def test_wrong_groups_and_rests(self):
        for wrong in NO_GROUPS:
            self.refused(InvalidGroup, Floor, wrong, (0,), (ONE, ONE))
            self.refused(InvalidGroup, Floor, wrong, None, None)
            self.refused(InvalidGroup, Floor.still, wrong, None)
            self.refused(InvalidGroup, Floor.made, wrong, None, None)
        for wrong in WRONG + ((), (1,), (-2,), (1001,), (0, True), (False,), ("2",), [0], (0,) * 13, (2, None), C2, Z2,
                              (TOO_LONG,), ((0,),), (101, 100), (2, 625, 9), (1000, 11)):
            self.refused(InvalidFloor, Floor, C2, wrong, None)
            self.refused(InvalidFloor, Floor.still, C2, wrong)
            self.refused(InvalidFloor, Floor.made, C2, wrong, None)

    def test_edges_of_rests(self):
        self.assertEqual(Floor.still(C2, (0,) * 12).places, 12)
        self.assertEqual(Floor.still(C2, (1000, 625, 0)).floor_size, 0)
        self.assertEqual(Floor.still(C2, (1000, 16)).floor_size, 16000)
        self.assertEqual(Floor.still(C2, (625, 16)).floor_size, 10000)
        self.assertEqual(Floor.still(C2, (99, 0, 101)).rests, (99, 0, 101))
        self.refused(InvalidFloor, Floor.still, C2, (909, 11, 2))
        self.refused(InvalidFloor, Floor.still, C2, (997, 11))
        self.assertEqual(Floor.still(C2, (909, 11)).rests, (909, 11))

    def test_wrong_tables(self):
        wrong = WRONG + ((), (ONE,), (ONE, ONE, ONE), [ONE, ONE], (ONE, [[1]]), (ONE, ([1],)), (ONE, ((True,),)),
                         (ONE, (("1",),)), (ONE, ((1, 0),)), (ONE, ((1,), (1,))), (ONE, ()), (ONE, ((),)),
                         (ONE, ((TOO_LONG,),)), (ONE, None), (ONE, C2), C2, (ONE, ((None,),)), (ONE, ((ONE,),)))
        for tables in wrong:
            self.refused(InvalidTable, Floor, C2, (0,), tables)
        one = ((1, 0), (0, 1))
        # from the rest 2 to 4 only multiples of 2, from a rest to whole numbers only 0
        self.refused(InvalidTable, Floor, C2, (2, 4), (one, ((1, 0), (1, 1))))
        self.refused(InvalidTable, Floor, C2, (0, 4), (one, ((1, 1), (0, 1))))
        self.refused(InvalidTable, Floor, C2, (4, 2), (one, ((1, 1), (0, 1))))
        self.assertEqual(Floor(C2, (4, 2), (one, ((1, 2), (0, 1)))).tables[1], ((1, 2), (0, 1)))

    def test_tables_that_do_not_work(self):
        self.refused(InvalidFloor, Floor, C2, (0,), (((-1,),), ((-1,),)))
        self.refused(InvalidFloor, Floor, C2, (0,), (ONE, ((2,),)))
        self.refused(InvalidFloor, Floor, C2, (0,), (ONE, ((0,),)))
        self.refused(InvalidFloor, Floor, C3, (0,), (ONE, ((-1,),), ONE))
        self.refused(InvalidFloor, Floor, C4, (5,), (ONE, ((2,),), ((4,),), ((2,),)))
        self.assertEqual(Floor(C4, (5,), (ONE, ((2,),), ((4,),), ((3,),))), Floor.made(C4, (5,), {1: ((2,),)}))
        # each single product is asked
        signs = [((-1,),) if S3.order(member) == 2 else ONE for member in S3]
        self.assertEqual(Floor(S3, (0,), tuple(signs)), SIGN)
        for member in S3:
            other = signs[:member] + [((-signs[member][0][0],),)] + signs[member + 1:]
            self.refused(InvalidFloor, Floor, S3, (0,), tuple(other))

    def test_the_first_wrong_argument_decides(self):
        self.refused(InvalidGroup, Floor, None, (1,), None)
        self.refused(InvalidFloor, Floor, C2, (1,), None)
        self.refused(InvalidTable, Floor, C2, (0,), (((2,),), ((True,),)))

    def test_moved(self):
        for floor in FLOORS:
            for value in (values_of(floor) if floor.is_finite else [(1,) * floor.places, (0,) * floor.places]):
                for member in floor.group:
                    table = floor.tables[member]
                    sums = [sum(entry * part for entry, part in zip(row, value)) for row in table]
                    wanted = tuple(entry % rest if rest else entry for entry, rest in zip(sums, floor.rests))
                    self.assertEqual(floor.moved(member, value), wanted)
        for one in WALL.group:
            for other in WALL.group:
                self.assertEqual(WALL.moved(WALL.group.product(one, other), (3, 7)),
                                 WALL.moved(one, WALL.moved(other, (3, 7))))

    def test_sums_and_multiples(self):
        self.assertEqual(MIXED.added((-3, 3), (5, 2)), (2, 1))
        self.assertEqual(MIXED.subtracted((-3, 1), (5, 2)), (-8, 3))
        self.assertEqual(MIXED.repeated(-3, (5, 3)), (-15, 3))
        self.assertEqual(MIXED.repeated(0, (5, 3)), (0, 0))
        self.assertEqual(Z2.repeated(LONGEST, (1,)), (1,))
        self.assertEqual(ZS.added((LONGEST,), (0,)), (LONGEST,))

    def test_sixty_digits(self):
        self.assertEqual(ZS.moved(1, (LONGEST,)), (-LONGEST,))
        self.refused(TooMany, ZS.added, (LONGEST,), (1,), limit=60)
        self.refused(TooMany, ZS.subtracted, (-LONGEST,), (1,), limit=60)
        self.refused(TooMany, ZS.repeated, 10, (10 ** 59,), limit=60)
        self.refused(TooMany, PLANE.moved, 1, (LONGEST, -LONGEST), limit=60)
        self.assertEqual(ZS.repeated(9, (10 ** 59,)), (9 * 10 ** 59,))
        for call in (lambda value: ZS.moved(1, value), lambda value: ZS.added((0,), value),
                     lambda value: ZS.subtracted(value, (0,)), lambda value: ZS.repeated(1, value)):
            self.refused(InvalidRow, call, (TOO_LONG,))
            self.refused(InvalidRow, call, (-TOO_LONG,))

    def test_wrong_values(self):
        for wrong in WRONG + ((), (0,), (0, 0, 0), [0, 0], (0, 4), (0, -1), (True, 0), (0, False), ("0", 0), (None, 0),
                              ((0,), 0), C2, Z2, (TOO_LONG, 0)):
            self.assertIs(is_floor_value(MIXED, wrong), False)
            self.refused(InvalidRow, MIXED.moved, 0, wrong)
            self.refused(InvalidRow, MIXED.added, wrong, None)
            self.refused(InvalidRow, MIXED.added, wrong, (0, 0))
            self.refused(InvalidRow, MIXED.added, (0, 0), wrong)
            self.refused(InvalidRow, MIXED.subtracted, wrong, (0, 0))
            self.refused(InvalidRow, MIXED.subtracted, (0, 0), wrong)
            self.refused(InvalidRow, MIXED.repeated, 1, wrong)
        for wrong in NO_NUMBERS + (2, -1):
            self.refused_number(MIXED.moved, wrong, wrong, None)
        for wrong in NO_NUMBERS:
            self.refused_number(MIXED.repeated, wrong, wrong, None)
        for value in ((0, 0), (-5, 3), (LONGEST, 0)):
            self.assertIs(is_floor_value(MIXED, value), True)
        for wrong in NO_FLOORS:
            self.refused(InvalidFloor, is_floor_value, wrong, (0,))

    def test_still_and_made(self):
        still = Floor.still(S3, (0, 3))
        for member in S3:
            self.assertEqual(still.moved(member, (7, 2)), (7, 2))
        self.assertEqual(Floor.made(C2, (0,), {1: ((-1,),)}), ZS)
        self.assertEqual(Floor.made(C2, (0,), {0: ONE, 1: ((-1,),)}), ZS)
        self.assertEqual(Floor.made(S3, (0, 0), {3: WALL.tables[3], 2: WALL.tables[2]}), WALL)
        self.assertEqual(Floor.made(S3, (0, 0), {member: WALL.tables[member] for member in (5, 1)}), WALL)
        self.assertEqual(Floor.made(C1, (0,), {}), Floor.still(C1, (0,)))
        self.assertEqual(Floor.made(C1, (0,), {0: ONE}), Floor.still(C1, (0,)))
        self.assertEqual(Floor.made(E32, (0,), {member: ONE for member in (1, 2, 4, 8, 16)}), Floor.still(E32, (0,)))

    def test_made_is_refused(self):
        for wrong in WRONG + ({}, {2: ONE}, {0: ONE}, {True: ONE}, {"1": ONE}, {(1,): ONE}, {1: None}, {1: [[1]]},
                              {1: ((1, 2),)}, {1: ((True,),)}, {1: ((TOO_LONG,),)}, [(1, ONE)], (1, ONE), C2,
                              {None: ONE}, {-1: ONE}):
            self.refused(InvalidTable, Floor.made, C2, (0,), wrong)
        self.refused(InvalidTable, Floor.made, S3, (0,), {1: ((-1,),)})
        self.refused(InvalidTable, Floor.made, C2, (2, 4), {1: ((1, 0), (1, 1))})
        self.refused(InvalidFloor, Floor.made, C2, (0,), {1: ((2,),)})
        self.refused(InvalidFloor, Floor.made, C2, (0,), {0: ((-1,),), 1: ((-1,),)})
        self.refused(InvalidFloor, Floor.made, S3, (0,), {1: ((-1,),), 2: ONE})
        self.refused(InvalidFloor, Floor.made, S3, (0,), {1: ((-1,),), 2: ((-1,),), 5: ONE})
        self.refused(InvalidFloor, Floor.made, C4, (0,), {1: ((0,),)})

    def test_great_tables(self):
        great = ((1, 10 ** 59), (0, -1))
        floor = Floor.made(C2, (0, 0), {1: great})
        self.assertEqual(floor.moved(1, (1, -9)), (1 - 9 * 10 ** 59, 9))
        self.refused(TooMany, floor.moved, 1, (0, 10), limit=60)
        self.assertEqual(fixed_list(floor), (0,))

    def test_equality_and_text(self):
        self.assertTrue(ZS == Floor.made(C2, (0,), {1: ((-1,),)}))
        self.assertTrue(ZS != Floor.still(C2, (0,)))
        self.assertFalse(Floor.still(C2, (2,)) == Floor.still(C2, (4,)))
        self.assertFalse(Floor.still(C4, (2,)) == Floor.still(V4, (2,)))
        for other in NO_FLOORS + (ZS.tables, (0,)):
            self.assertFalse(ZS == other)
            self.assertTrue(ZS != other)
        self.assertEqual(str(WALL), "floor of 2 places over 6 members")
        self.assertEqual(str(ZS), "floor of 1 places over 2 members")
        with self.assertRaises(TypeError):
            iter(ZS)


class FixedTest(Refusals, unittest.TestCase):
    def test_finite_floors_by_all_values(self):
        for floor in FINITE:
            fixed = [value for value in values_of(floor)
                     if all(floor.moved(member, value) == value for member in floor.group)]
            orders = {}
            for value in fixed:
                order = lcm(1, *[rest // gcd(entry, rest) for entry, rest in zip(value, floor.rests)])
                orders[order] = orders.get(order, 0) + 1
            found = fixed_list(floor)
            self.assertEqual(orders_in_list(found), orders)
            self.assertTrue(all(number > 1 for number in found))
            self.assertTrue(all(further % number == 0 for number, further in zip(found, found[1:])))

    def test_whole_and_mixed_floors(self):
        for floor, wanted in ((ZS, ()), (PLANE, ()), (SIGN, ()), (WALL, ()), (SWAP, (0,)), (MIXED, (4,)),
                              (regular(S3, 0), (0,)), (Floor.still(S3, (0, 0, 4, 6)), (2, 12, 0, 0)),
                              (Floor(C2, (0, 2), (((1, 0), (0, 1)), ((1, 0), (1, 1)))), (2, 0)),
                              (Floor.still(C2, (1000, 0)), (1000, 0)), (Floor.still(C1, (2, 2)), (2, 2))):
            self.assertEqual(fixed_list(floor), wanted)
        for wrong in NO_FLOORS:
            self.refused(InvalidFloor, fixed_list, wrong)


class SumTest(Refusals, unittest.TestCase):
    def test_floor_sums(self):
        for one in (Z2, ZS, SWAP, MIXED, TWIST):
            for other in (Z2, ZS, MIXED):
                both = floor_sum(one, other)
                self.assertEqual((both.group, both.rests), (C2, one.rests + other.rests))
                first, second = (1,) * one.places, (1,) * other.places
                self.assertEqual(both.moved(1, first + second), one.moved(1, first) + other.moved(1, second))

    def test_floor_sums_are_refused(self):
        for wrong in NO_FLOORS:
            self.refused(InvalidFloor, floor_sum, wrong, ZS)
            self.refused(InvalidFloor, floor_sum, ZS, wrong)
        self.refused(InvalidOperation, floor_sum, ZS, Z3)
        self.refused(InvalidOperation, floor_sum, Floor.still(C3, (0,) * 12), Floor.still(C2, (0,)))
        twelve = Floor.still(C2, (0,) * 11 + (997,))
        self.refused(TooMany, floor_sum, twelve, Floor.still(C2, (11,)), limit=12)
        self.assertEqual(floor_sum(Floor.still(C2, (0,) * 11), ZS).places, 12)
        self.refused(TooMany, floor_sum, Floor.still(C2, (997,)), Floor.still(C2, (11,)), limit=10000)
        self.assertEqual(floor_sum(Floor.still(C2, (625,)), Floor.still(C2, (16, 0))).rests, (625, 16, 0))

    def test_seen_floors(self):
        for floor in (WALL, SIGN, regular(V4, 3), Floor.still(C6, (0, 4))):
            for part in group_parts(floor.group):
                seen = seen_floor(floor, part)
                self.assertEqual(seen.group, part_group(floor.group, part))
                self.assertEqual(seen.rests, floor.rests)
                self.assertEqual(seen.tables, tuple(floor.tables[member] for member in part))
                self.assertEqual(seen, Floor(seen.group, seen.rests, seen.tables))
        for wrong in NO_FLOORS:
            self.refused(InvalidFloor, seen_floor, wrong, (0,))
        for wrong in WRONG + ((), (1,), (0, 3), [0], (0, True), S3):
            self.refused(InvalidGroup, seen_floor, WALL, wrong)


class MapTest(Refusals, unittest.TestCase):
    def test_maps_by_all_values(self):
        for one in (Z2, TWIST, regular(C2, 4)):
            for other in (Z2, TWIST):
                for entries in product(range(4), repeat=one.places * other.places):
                    table = tuple(entries[at:at + one.places] for at in range(0, len(entries), one.places))
                    keeps = all(entry * rest % goal == 0 for row, goal in zip(table, other.rests)
                                for entry, rest in zip(row, one.rests))
                    led = {value: tuple(sum(entry * part for entry, part in zip(row, value)) % goal
                                        for row, goal in zip(table, other.rests)) for value in values_of(one)}
                    along = all(led[one.moved(1, value)] == other.moved(1, led[value]) for value in led)
                    self.assertIs(is_floor_map(one, other, table), keeps and along)
                    if keeps and along:
                        self.assertEqual({value: mapped(one, other, table, value) for value in led}, led)

    def test_maps_of_whole_floors(self):
        self.assertTrue(is_floor_map(SWAP, ZS, ((1, -1),)))
        self.assertFalse(is_floor_map(SWAP, ZS, ((1, 1),)))
        self.assertTrue(is_floor_map(SWAP, Floor.still(C2, (0,)), ((LONGEST, LONGEST),)))
        self.assertFalse(is_floor_map(Z2, ZS, ((1,),)))
        self.assertTrue(is_floor_map(Z2, ZS, ((0,),)))
        self.assertTrue(is_floor_map(ZS, MIXED, ((2,), (-1,))))
        self.assertFalse(is_floor_map(ZS, MIXED, ((1,), (0,))))
        self.assertEqual(mapped(ZS, MIXED, ((2,), (-1,)), (5,)), (10, 3))

    def test_what_is_no_map(self):
        for wrong in WRONG + ((), ((1,),), ((1, 2, 3),), [(1, -1)], ([1, -1],), ((True, -1),), ((1, "1"),), C2, Z2,
                              ((TOO_LONG, -TOO_LONG),), ((1, -1), (1, -1)), (None,), ((1, None),)):
            self.assertIs(is_floor_map(SWAP, ZS, wrong), False)
            self.refused(InvalidMap, mapped, SWAP, ZS, wrong, None)
        self.refused(InvalidMap, mapped, SWAP, ZS, ((1, 1),), (0, 0))
        for wrong in WRONG + ((0,), [0, 0], (0, True), (0, TOO_LONG)):
            self.refused(InvalidRow, mapped, SWAP, ZS, ((1, -1),), wrong)
        self.refused(TooMany, mapped, SWAP, ZS, ((1, -1),), (LONGEST, -1), limit=60)
        for wrong in NO_FLOORS:
            self.refused(InvalidFloor, is_floor_map, wrong, ZS, ONE)
            self.refused(InvalidFloor, is_floor_map, ZS, wrong, ONE)
            self.refused(InvalidFloor, mapped, wrong, Z3, None, None)
            self.refused(InvalidFloor, mapped, ZS, wrong, None, None)
        self.refused(InvalidOperation, is_floor_map, ZS, Z3, ONE)
        self.refused(InvalidOperation, mapped, ZS, Z3, None, None)

    def test_same_floor_maps(self):
        for floor in FINITE + NEAR_THE_BOUND:
            many = 1
            for rest in floor.rests:
                many *= rest ** floor.places
            if many > 256:
                self.refused(TooMany, same_floor_maps, floor, limit=256)
                continue
            self.assertEqual(same_floor_maps(floor), slow_maps(floor), floor.rests)
        self.assertEqual(same_floor_maps(Z3), (((1,),), ((2,),)))
        self.assertEqual(len(same_floor_maps(Floor.still(C2, (4, 4)))), 96)
        self.assertEqual(len(same_floor_maps(Floor.still(C2, (2, 2)))), 6)
        self.assertEqual(same_floor_maps(Floor.still(C2, (256,))), tuple(((entry,),) for entry in range(1, 256, 2)))

    def test_same_floor_maps_at_the_bound_are_quick(self):
        for floor in NEAR_THE_BOUND:
            times = []
            for _ in range(20):
                start = time.perf_counter()
                same_floor_maps(floor)
                times.append(time.perf_counter() - start)
            self.assertLess(min(times), 0.005, floor.rests)

    def test_same_floor_maps_are_refused(self):
        for wrong in NO_FLOORS:
            self.refused(InvalidFloor, same_floor_maps, wrong)
        for floor in (ZS, MIXED, Floor.still(C2, (0,) * 12)):
            self.refused(InvalidOperation, same_floor_maps, floor)
        self.refused(TooMany, same_floor_maps, Floor.still(C2, (257,)), limit=256)
        self.refused(TooMany, same_floor_maps, Floor.still(C2, (2,) * 12), limit=256)
        self.refused(TooMany, same_floor_maps, Floor.still(C2, (2, 2, 2)), limit=256)

    def test_one_whole_place(self):
        for entry in range(-5, 6):
            if entry in (1, -1):
                self.assertEqual(Floor(C2, (0,), (ONE, ((entry,),))).tables[1], ((entry,),))
            else:
                self.refused(InvalidFloor, Floor, C2, (0,), (ONE, ((entry,),)))

    def test_not_true_that_equal_rests_tell_a_floor(self):
        still = Floor.still(C2, (0,))
        self.assertNotEqual(ZS, still)
        self.assertEqual([entry for entry in range(-50, 51) if is_floor_map(ZS, still, ((entry,),))], [0])
        self.assertEqual([entry for entry in range(-50, 51) if is_floor_map(still, ZS, ((entry,),))], [0])

    def test_errors_of_members_name_what_was_given(self):
        self.refused(InvalidNumber, ZS.moved, 2, None, given=2)
        self.refused(InvalidNumber, ZS.repeated, TOO_LONG, None, given=TOO_LONG)


if __name__ == "__main__":
    unittest.main()
