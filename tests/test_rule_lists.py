"""Lists by rules alone, with few equations, held against other roads: points 12.4, 16.3 to 16.5."""

import unittest
from math import gcd

from examples import (A4, C1, C2, C3, C4, C6, D4, E8, MIXED, NO_FLOORS, NO_NUMBERS, PLANE, Q8, Refusals, S3, S4, SIGN,
                      SWAP, TWIST, V4, WALL, Z2, Z3, ZS, regular)
from groupsover.base.floors import Floor, floor_sum
from groupsover.base.groups import Group, group_parts, part_group
from groupsover.base.middles import list_between
from groupsover.base.same_maps import primes_of
from groupsover.base.sparse import PrimeSpan, rank_of_rows
from groupsover.carried.carried import carried_floor
from groupsover.errors import InvalidFloor, InvalidNumber, InvalidOperation
from groupsover.ladders.sums import plain_rows
from groupsover.rows.closed import class_list
from groupsover.rows.few import few_list
from groupsover.rules.fewer import WayRows, enough_at, is_one_member, sums_in, with_one_at
from groupsover.rules.rules import Rules, equations_for, lines_at, rules_list
from test_rules import SOME, letters_with

EVEN = Group(((1, 2, 0, 3), (1, 0, 3, 2)))
R_EVEN = Rules(EVEN, (EVEN.moves.index((1, 2, 0, 3)), EVEN.moves.index((1, 0, 3, 2))), ((1, 1, 1), (2, 2), (1, 2) * 3))
R_D4 = Rules(D4, (3, 1), ((1, 1, 1, 1), (2, 2), (1, 2, 1, 2)))
R_Q8 = Rules(Q8, (1, 4), ((1, 1, -2, -2), (1, 2, 1, -2)))
R_S3 = Rules(S3, (3, 2), ((1, 1, 1), (2, 2), (1, 2, 1, 2)))
R_V4 = Rules(V4, (1, 2), ((1, 1), (2, 2), (1, 2, -1, -2)))
R_C4, R_C6 = Rules(C4, (1,), ((1,) * 4,)), Rules(C6, (1,), ((1,) * 6,))
R_S4 = letters_with(S4, ((1, 1), (2, 2), (3, 3), (1, 2) * 3, (2, 3) * 3, (1, 3) * 2))[1]
R_E8 = Rules(E8, (1, 2, 4), ((1, 1), (2, 2), (3, 3), (1, 2, 1, 2), (1, 3, 1, 3), (2, 3, 2, 3)))
RULES = (R_C4, R_C6, R_V4, R_S3, R_D4, R_Q8, R_EVEN)
RESTS = ((0,), (2,), (3,), (4,), (12,), (0, 6), (2, 4, 8))
# for each of these rules the lists of the steps 1 and 2 of the still floors with these rests
STILL = (
    (((), (4,)), ((2,), (2,)), ((), ()), ((4,), (4,)), ((4,), (4,)), ((2,), (2, 4)), ((2, 4, 4), (2, 4, 4))),
    (((), (6,)), ((2,), (2,)), ((3,), (3,)), ((2,), (2,)), ((6,), (6,)), ((6,), (6, 6)), ((2,) * 3, (2,) * 3)),
    (((), (2,) * 2), ((2,) * 2, (2,) * 3), ((), ()), ((2,) * 2, (2,) * 3), ((2,) * 2, (2,) * 3), ((2,) * 2, (2,) * 5),
     ((2,) * 6, (2,) * 9)),
    (((), (2,)), ((2,), (2,)), ((), ()), ((2,), (2,)), ((2,), (2,)), ((2,), (2, 2)), ((2,) * 3, (2,) * 3)),
    (((), (2,) * 2), ((2,) * 2, (2,) * 3), ((), ()), ((2,) * 2, (2,) * 3), ((2,) * 2, (2,) * 3), ((2,) * 2, (2,) * 5),
     ((2,) * 6, (2,) * 9)),
    (((), (2,) * 2), ((2,) * 2, (2,) * 2), ((), ()), ((2,) * 2, (2,) * 2), ((2,) * 2, (2,) * 2), ((2,) * 2, (2,) * 4),
     ((2,) * 6, (2,) * 6)),
    (((), (3,)), ((), (2,)), ((3,), (3,)), ((), (2,)), ((3,), (6,)), ((3,), (3, 6)), ((), (2,) * 3)))
CYCLE = ((0, 0, 0, 1), (1, 0, 0, 0), (0, 1, 0, 0), (0, 0, 1, 0))
FLIP = ((1, 0, 0, 0), (0, 0, 0, 1), (0, 0, 1, 0), (0, 1, 0, 0))
MOVING = (Z2, Z3, ZS, PLANE, SWAP, MIXED, TWIST, SIGN, WALL, regular(C4, 6), regular(V4, 4), regular(S3, 12), regular(D4, 2),
          regular(Q8, 4), regular(EVEN, 6), floor_sum(SIGN, regular(S3, 4)), floor_sum(WALL, Floor.still(S3, (6,))),
          Floor.made(C4, (0, 8), {1: ((-1, 0), (2, 3))}), Floor.made(C6, (8, 0), {1: ((3, 4), (0, 1))}),
          Floor.made(V4, (0, 2), {1: ((-1, 0), (1, 1)), 2: ((1, 0), (0, 1))}), Floor.made(D4, (0,) * 4, {3: CYCLE, 1: FLIP}),
          Floor.made(D4, (4,) * 4, {3: CYCLE, 1: FLIP}), Floor.made(Q8, (0, 4), {1: ((-1, 0), (2, 1)), 4: ((1, 0), (0, 3))}),
          Floor.made(D4, (0, 8), {3: ((1, 0), (0, 3)), 1: ((-1, 0), (0, 5))}))


def rules_over(group):
    """The rules of these tests for a group."""
    return [some for some in RULES + SOME if some.ruled_group == group]


def list_by_all_equations(floor, some):
    """The list of the step 2 by all ways and all equations."""
    loops = some.known_loops()
    return list_between(floor, lines_at(some, range(len(loops.ways))), loops.moved_equations())


def is_listed(floor, step):
    return (floor.group.size - 1) ** (step + 1) * floor.places <= 300


class RuleListTest(Refusals, unittest.TestCase):
    def test_still_floors(self):
        for some, lists in zip(RULES, STILL):
            for rests, wanted in zip(RESTS, lists):
                floor = Floor.still(some.ruled_group, rests)
                self.assertEqual((rules_list(floor, some, 1), rules_list(floor, some, 2)), wanted)
                self.same_lists(floor, some)

    def same_lists(self, floor, some):
        """The lists by rules are those by few tuples, by all equations, and by closed rows."""
        for step in (1, 2):
            found = rules_list(floor, some, step)
            self.assertEqual(found, few_list(floor, step))
            if is_listed(floor, step):
                self.assertEqual(found, class_list(floor, step))
        self.assertEqual(rules_list(floor, some, 2), list_by_all_equations(floor, some))

    def test_floors_whose_members_move_values(self):
        for floor in MOVING:
            some = rules_over(floor.group)
            self.assertGreater(len(some), 0)
            for one in some:
                self.same_lists(floor, one)

    def test_carried_floors(self):
        for some in RULES:
            group = some.ruled_group
            for part in group_parts(group):
                for rests in ((0,), (2,), (3,), (4,), (0, 2), (6, 4)):
                    if group.size // len(part) * len(rests) <= 12:
                        low = Floor.still(part_group(group, part), rests)
                        floor = carried_floor(group, part, low)
                        for step in (1, 2):
                            # the list of a carried floor is that of the floor that is carried up
                            self.assertEqual(rules_list(floor, some, step), few_list(low, step))
                        self.same_lists(floor, some)

    def test_carried_from_one_member(self):
        for rest in (0, 2, 3, 4, 5, 6, 12):
            for group, some in ((EVEN, R_EVEN), (D4, R_D4), (Q8, R_Q8)):
                floor = carried_floor(group, (0,), Floor.still(part_group(group, (0,)), (rest,)))
                self.assertEqual([rules_list(floor, some, step) for step in (1, 2)], [(), ()])

    def test_greater_groups(self):
        for some in (R_S4, R_E8):
            for rests in ((2,), (0, 6), (12, 4, 2), (2,) * 8, (0, 3, 6, 4, 0, 2, 9)):
                floor = Floor.still(some.ruled_group, rests)
                self.assertEqual(rules_list(floor, some, 1), few_list(floor, 1))
                self.assertEqual(rules_list(floor, some, 2), list_by_all_equations(floor, some))
                if some is R_E8:
                    self.assertEqual(rules_list(floor, some, 2), few_list(floor, 2))

    def test_one_member(self):
        for rests in RESTS:
            floor = Floor.still(C1, rests)
            self.assertEqual([rules_list(floor, Rules(C1, (0,), ((1,),)), step) for step in (1, 2)], [(), ()])

    def test_few_equations_make_all(self):
        for some in RULES + SOME + (R_S4, R_E8):
            group, loops = some.ruled_group, some.known_loops()
            rows = WayRows(group, loops.moved_equations())
            free = [at for at in range(len(loops.ways)) if at not in rows.told]
            left = list(rows.left_rows.values())
            self.assertTrue(all(at in free for row in left for at in row))
            # values at the free ways that keep to the equations are as many as loops
            rank = group.size * len(free) - len(loops.ways)
            self.assertEqual(rank_of_rows(plain_rows(group, left)) if left else 0, rank)
            for prime in primes_of(group.size):
                found = enough_at(group, left, rank, prime)
                self.assertTrue(all(row in left for row in found))
                span = PrimeSpan(prime)
                for row in plain_rows(group, found):
                    span.take_in(row)
                self.assertEqual(span.many_rows(), rank)
        self.assertEqual(len(WayRows(EVEN, R_EVEN.known_loops().moved_equations()).told), 10)

    def test_equations_are_few(self):
        for some, many in ((R_EVEN, 4), (R_D4, 4), (R_S3, 4), (R_C6, 1)):
            group = some.ruled_group
            for rest in (2, 3, 4, 6, 12):
                if gcd(group.size, rest) > 1:
                    floor = carried_floor(group, (0,), Floor.still(part_group(group, (0,)), (rest,)))
                    free, equations = equations_for(floor, some)
                    self.assertLessEqual(len(free), len(some.words))
                    self.assertLessEqual(len(equations), many)

    def test_ways_are_taken_off(self):
        self.assertEqual([is_one_member(told) for told in ({0: 1}, {2: -1}, {0: 2}, {1: -2}, {0: 1, 1: 1}, {}, {1: 3})],
                         [True, True, False, False, False, False, False])
        self.assertEqual(sums_in({0: {0: 1, 2: 5}, 3: {1: 1}}), 3)
        self.assertEqual(with_one_at(C3, {0: {1: -1}, 1: {0: 3, 2: -2}}, 0), {0: {0: 1}, 1: {2: -3, 1: 2}})
        for equations, told, left in (
                ([{0: {0: 2}, 1: {0: 1, 1: 1}}], {}, [{0: {0: 2}, 1: {0: 1, 1: 1}}]),
                ([{0: {1: -1}, 1: {0: 3}}, {0: {0: 1}, 1: {2: 1}}], {0: True}, [{1: {2: 4}}]),
                ([{0: {1: 1}, 1: {0: 2}}, {}, {0: {1: -1}, 1: {0: -2}}], {0: True}, []),
                # what few other equations have is taken off first
                ([{0: {0: 1}, 1: {0: 1}}, {0: {0: 1, 1: 2}}, {0: {2: 2, 1: 1}}], {1: True}, [{0: {0: 1, 1: 2}}, {0: {2: 2, 1: 1}}]),
                # what can be taken off at last only
                ([{0: {0: 1, 1: 1}, 1: {0: 2}}, {1: {0: 1}, 2: {0: 2}}, {0: {0: 1, 1: 1}, 1: {0: 2}, 3: {2: 1}, 2: {1: 3, 2: 1}}],
                 {1: True, 3: True}, [{0: {0: 1, 1: 1}, 2: {0: -4}}])):
            before = [{way: dict(row[way]) for way in row} for row in equations]
            rows = WayRows(C3, equations)
            self.assertEqual((rows.told, list(rows.left_rows.values())), (told, left))
            self.assertEqual(equations, before)

    def test_enough_equations(self):
        less, whole = {0: {0: -1, 1: 1}}, {0: {0: 1, 1: 1, 2: 1}}
        # t - 1 moved makes two sums; three times it make them at 2, but not at 3
        self.assertEqual(enough_at(C3, [less, {0: {0: 1, 2: -1}}], 2, 3), [less])
        self.assertEqual(enough_at(C3, [{0: {0: -3, 1: 3}}, less], 2, 3), [less])
        self.assertEqual(enough_at(C3, [{0: {0: -3, 1: 3}}, less], 2, 2), [{0: {0: -3, 1: 3}}])
        # the sum of all members is made by t - 1 at 3
        self.assertEqual(enough_at(C3, [whole, less], 3, 2), [less, whole])
        self.assertEqual(enough_at(C3, [whole, less], 2, 3), [less])
        self.assertEqual(enough_at(C3, [less, whole, {1: {0: 1, 1: 1, 2: 1}}, {1: {0: 2}}], 5, 3), [{1: {0: 2}}, less])
        self.assertEqual(enough_at(C3, [], 0, 3), [])

    def test_rows_modulo_a_prime(self):
        span = PrimeSpan(3)
        self.assertEqual([span.take_in(row) for row in ({0: 1, 1: 1}, {0: 2, 1: 2}, {}, {2: 3}, {1: 2}, {0: 1, 1: 2}, {2: -1})],
                         [True, False, False, False, True, False, True])
        self.assertEqual(span.many_rows(), 3)

    def test_errors(self):
        wrongs = [(0, NO_FLOORS, InvalidFloor), (1, (None, 1, (), {}, R_D4, Q8), InvalidOperation),
                  (2, NO_NUMBERS + (0, 3, 4, -1), InvalidNumber)]
        self.refuse_in_order(rules_list, (Floor.still(EVEN, (2,)), R_EVEN, 2), wrongs)
        # equal groups are enough, however they were made
        self.assertEqual(EVEN, A4)
        self.assertEqual(rules_list(Floor.still(A4, (2,)), R_EVEN, 2), (2,))
        for group in (C2, C3, S3):
            self.refused(InvalidOperation, rules_list, Floor.still(group, (2,)), R_EVEN, 0)
        self.assertEqual(gcd(*rules_list(Floor.still(EVEN, (0,)), R_EVEN, 2)), 3)


if __name__ == "__main__":
    unittest.main()
