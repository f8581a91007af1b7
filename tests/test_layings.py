"""Groups from 2-rows: points 0.14 and 7.1 to 7.6."""

import unittest

from examples import (C1, C2, C3, C4, C6, D4, LONGEST, MIXED, NO_FLOORS, NO_NUMBERS, PLANE, Q8, Refusals, S3, SIGN, SWAP,
                      TOO_LONG, TWIST, V4, WALL, WRONG, Z2, Z3, ZS, regular, slow_change, some_row, values_of,
                      wrong_rows, wrong_values)
from groupsover.base.floors import Floor, seen_floor
from groupsover.base.groups import Group, generated_rounds
from groupsover.errors import InvalidFloor, InvalidNumber, InvalidOperation, InvalidRow, Refused, TooMany
from groupsover.laid import layings
from groupsover.laid.layings import (Layering, finite_pair, is_choice, is_finite_pair, is_split, row_from, split)
from groupsover.rows.closed import class_list, class_makers, is_closed, source_of
from groupsover.rows.rows import row_difference, row_sum, row_times

STILL = Floor.still(C2, (0,))
FLOORS = (Z2, Z3, TWIST, Floor.still(V4, (2,)), Floor.still(C4, (2,)), Floor.made(S3, (3,), {1: ((-1,),), 2: ((-1,),)}),
          regular(C2, 2), Floor.still(C1, (4,)), ZS, MIXED, SWAP, STILL, PLANE, SIGN, Floor.still(C3, (0,)))


def closed_rows(floor, bound=5):
    """Some closed 2-rows: a change, and one with as much of the makers as there is."""
    change = slow_change(floor, 1, some_row(floor, 1, bound, 1))
    rows = [{}, change, slow_change(floor, 1, some_row(floor, 1, bound, 2))]
    for times, maker in enumerate(class_makers(floor, 2), 1):
        rows.append(row_sum(floor, 2, rows[-1], row_times(floor, 2, times, maker)))
    return rows


def some_pairs(floor):
    """Some pairs of a floor, all of them if there are not too many."""
    if floor.is_finite and floor.floor_size <= 8:
        return [(value, member) for value in values_of(floor) for member in floor.group]
    values = [some_row(floor, 0, 9, seed).get((), (0,) * floor.places) for seed in range(3)]
    return [(value, member) for value in values for member in floor.group]


class LayeringTest(Refusals, unittest.TestCase):
    def test_the_example(self):
        four, long = Layering(Z2, {(1, 1): (1,)}), Layering(STILL, {(1, 1): (1,)})
        self.assertEqual([four.many_pairs, four.neutral, four.joined(((0,), 1), ((1,), 1)), four.turns(((0,), 1)),
                          split(four), str(long), finite_pair(long)],
                         [4, ((0,), 0), ((0,), 0), 4, None, 'laying of endless pairs over 2 members', None])

    def test_constants(self):
        self.assertEqual((layings.MOST_PAIRS, layings.MOST_TIMES), (96, 1000))

    def test_a_group_by_words(self):
        for floor in FLOORS:
            zero = (0,) * floor.places
            for row in closed_rows(floor):
                one = Layering(floor, row)
                pairs = some_pairs(floor)
                self.assertEqual(one.neutral, (floor.subtracted(zero, row.get((0, 0), zero)), 0))
                for x, g in pairs:
                    back = one.undone((x, g))
                    self.assertEqual(one.joined((x, g), back), one.neutral)
                    self.assertEqual(one.joined(back, (x, g)), one.neutral)
                    self.assertEqual(one.joined(one.neutral, (x, g)), (x, g))
                    self.assertEqual(one.joined((x, g), one.neutral), (x, g))
                    for y, h in pairs:
                        value = floor.added(floor.added(x, floor.moved(g, y)), row.get((g, h), zero))
                        self.assertEqual(one.joined((x, g), (y, h)), (value, floor.group.product(g, h)))
                        for p in pairs[::7]:
                            self.assertEqual(one.joined(one.joined((x, g), (y, h)), p),
                                             one.joined((x, g), one.joined((y, h), p)))

    def test_only_closed_rows_make_groups(self):
        for floor in (Z2, STILL, ZS, Z3):
            for seed in range(8):
                row = some_row(floor, 2, 3, seed)
                if is_closed(floor, 2, row):
                    self.assertEqual(Layering(floor, row).told_row, row)
                else:
                    self.refused(Refused, Layering, floor, row, reason=("open",))

    def test_inside(self):
        for floor in FLOORS:
            values = sorted({value for value, _ in some_pairs(floor)})
            for row in closed_rows(floor)[1:]:
                one = Layering(floor, row)
                for y in values:
                    for z in values:
                        self.assertEqual(one.joined(one.inside(y), one.inside(z)), one.inside(floor.added(y, z)))
                    for pair in some_pairs(floor):
                        moved = one.joined(one.joined(pair, one.inside(y)), one.undone(pair))
                        self.assertEqual(moved, one.inside(floor.moved(pair[1], y)))
        for wrong in wrong_values(ZS):
            self.refused(InvalidRow, Layering(ZS, {}).inside, wrong)

    def test_many_times(self):
        for floor in FLOORS:
            for row in closed_rows(floor):
                one = Layering(floor, row)
                for pair in some_pairs(floor)[:12]:
                    power, found = one.neutral, 0
                    for times in range(1, 40):
                        power = one.joined(power, pair)
                        self.assertEqual(one.joined_often(pair, times), power)
                        self.assertEqual(one.joined_often(pair, -times), one.undone(power))
                        if power == one.neutral and not found:
                            found = times
                    self.assertEqual(one.joined_often(pair, 0), one.neutral)
                    self.assertEqual(one.turns(pair), found)
        long = Layering(STILL, {(1, 1): (1,)})
        self.assertEqual(long.joined_often(((0,), 1), 1000), ((500,), 0))
        self.assertEqual(long.joined_often(((0,), 1), -1000), ((-500,), 0))
        self.assertEqual(long.joined_often(((0,), 1), 999), ((499,), 1))
        for wrong in NO_NUMBERS + (1001, -1001):
            self.refused_number(long.joined_often, wrong, ((0,), 1), wrong)

    def test_sixty_digits(self):
        long = Layering(STILL, {(1, 1): (1,)})
        self.assertEqual(long.joined(((LONGEST - 1,), 1), ((0,), 1)), ((LONGEST,), 0))
        self.refused(TooMany, long.joined, ((LONGEST,), 1), ((0,), 1), limit=60)
        self.assertEqual(long.undone(((LONGEST - 1,), 1)), ((-LONGEST,), 1))
        self.refused(TooMany, long.undone, ((LONGEST,), 1), limit=60)
        self.refused(TooMany, long.joined_often, ((LONGEST,), 0), 2, limit=60)
        self.assertEqual(long.joined_often(((10 ** 57 - 1,), 0), 1000), (((10 ** 57 - 1) * 1000,), 0))
        self.refused(TooMany, long.joined_often, ((10 ** 57,), 0), 1000, limit=60)
        # only what is returned must be short
        self.assertEqual(Layering(ZS, {}).joined_often(((LONGEST,), 1), 1000), ((0,), 0))
        lower = Layering(STILL, slow_change(STILL, 1, {(0,): (-1,)}))
        self.assertEqual(lower.neutral, ((1,), 0))
        self.assertEqual(lower.inside((LONGEST - 1,)), ((LONGEST,), 0))
        self.refused(TooMany, lower.inside, (LONGEST,), limit=60)
        self.assertEqual(long.turns(((LONGEST,), 0)), 0)

    def test_tables(self):
        for floor in FLOORS:
            for row in closed_rows(floor):
                one = Layering(floor, row)
                self.assertEqual(one.many_pairs, floor.floor_size * floor.group.size)
                if not floor.is_finite:
                    self.refused(Refused, one.all_pairs, reason=("endless",))
                    self.refused(Refused, one.pairs_table, reason=("endless",))
                    continue
                pairs = one.all_pairs()
                self.assertEqual(pairs, tuple(sorted((x, g) for x in values_of(floor) for g in floor.group)))
                self.assertEqual(one.pairs_table(), tuple(tuple(pairs.index(one.joined(left, right)) for right in pairs)
                                                          for left in pairs))
        for group, rest in ((C2, 48), (C6, 16), (D4, 12)):
            one = Layering(Floor.still(group, (rest,)), {})
            self.assertEqual(len(one.all_pairs()), 96)
            self.assertEqual(len(one.pairs_table()), 96)
        for group, rests in ((C2, (49,)), (C2, (7, 7)), (Group.round(14), (7,)), (C1, (97,))):
            one = Layering(Floor.still(group, rests), {})
            self.refused(TooMany, one.all_pairs, limit=96)
            self.refused(TooMany, one.pairs_table, limit=96)

    def test_wrong_arguments(self):
        self.refuse_in_order(Layering, (ZS, {}), [(0, NO_FLOORS, InvalidFloor), (1, wrong_rows(ZS, 2), InvalidRow)])
        great, small = Floor.still(Group.round(18), (0,)), Floor.still(Group.round(17), (0,))
        self.refused(TooMany, Layering, great, {(1, 1): (1,)}, limit=5000)
        self.refused(InvalidRow, Layering, great, {(1,): (1,)})
        self.refused(Refused, Layering, small, {(1, 1): (1,)}, reason=("open",))
        self.assertEqual(str(Layering(small, {})), "laying of endless pairs over 17 members")
        one, right = Layering(ZS, {}), ((1,), 1)
        wrong_pairs = WRONG + ((), ((0,),), ((0,), 0, 0), [(0,), 0], ((0,), 2), ((0,), -1), ((0,), True), ((True,), 0),
                               ((0, 0), 0), ([0], 0), (0, 0), ((0,), None), ((TOO_LONG,), 0), C2, one)
        for wrong in wrong_pairs:
            self.assertIs(wrong in one, False)
            self.refused(InvalidOperation, one.joined, wrong, right)
            self.refused(InvalidOperation, one.joined, right, wrong)
            self.refused(InvalidOperation, one.undone, wrong)
            self.refused(InvalidOperation, one.turns, wrong)
            self.refused(InvalidOperation, one.joined_often, wrong, None)
        self.assertIs(right in one, True)
        self.assertIs(((-LONGEST,), 0) in one, True)
        self.assertIs(((2,), 0) in Layering(Z2, {}), False)

    def test_what_it_keeps(self):
        row = {(1, 1): (1,), (0, 0): (5,), (0, 1): (5,), (1, 0): (5,)}
        one = Layering(STILL, row)
        row[(1, 1)] = (7,)
        told = one.told_row
        self.assertEqual(list(told.items()), [((0, 0), (5,)), ((0, 1), (5,)), ((1, 0), (5,)), ((1, 1), (1,))])
        told.clear()
        self.assertEqual(one.told_row[(1, 1)], (1,))
        self.assertEqual(one.base_floor, STILL)
        self.assertTrue(one == Layering(STILL, one.told_row))
        self.assertFalse(one != Layering(STILL, one.told_row))
        self.assertFalse(one == Layering(STILL, {}))
        self.assertFalse(Layering(STILL, {}) == Layering(ZS, {}))
        for other in WRONG + (C2, STILL, row):
            self.assertFalse(one == other)
            self.assertTrue(one != other)
        with self.assertRaises(TypeError):
            iter(one)
        with self.assertRaises(AttributeError):
            one.neutral = None
        self.assertEqual(str(Layering(Z3, {})), "laying of 9 pairs over 3 members")


class ChoiceTest(Refusals, unittest.TestCase):
    def test_rows_from_choices(self):
        for floor in FLOORS:
            zero = (0,) * floor.places
            for row in closed_rows(floor):
                one = Layering(floor, row)
                for seed in range(3):
                    lower = some_row(floor, 1, 6, seed)
                    choice = tuple((lower.get((g,), zero), g) for g in floor.group)
                    self.assertIs(is_choice(one, choice), True)
                    found = row_from(one, choice)
                    self.assertEqual(found, row_sum(floor, 2, row, slow_change(floor, 1, lower)))
                    self.assertEqual(list(found), sorted(found))
                    self.assertTrue(is_closed(floor, 2, found))
                    for g in floor.group:
                        for h in floor.group:
                            told = one.inside(found.get((g, h), zero))
                            self.assertEqual(one.joined(told, choice[floor.group.product(g, h)]),
                                             one.joined(choice[g], choice[h]))
                    self.assertIs(is_split(one, choice), not found)

    def test_split_exactly_if_a_change(self):
        for floor in FLOORS:
            for row in closed_rows(floor) + closed_rows(floor, 10 ** 30):
                one = Layering(floor, row)
                choice = split(one)
                self.assertEqual(choice is None, source_of(floor, 2, row) is None)
                if choice is not None:
                    self.assertIs(is_choice(one, choice), True)
                    self.assertIs(is_split(one, choice), True)
                    self.assertEqual(row_from(one, choice), {})
                    for left in choice:
                        for right in choice:
                            self.assertIn(one.joined(left, right), choice)

    def test_wrong_choices(self):
        one = Layering(ZS, {})
        wrong = WRONG + ((), (((0,), 0),), (((0,), 1), ((0,), 0)), (((0,), 0), ((0,), 0)), [((0,), 0), ((0,), 1)],
                         (((0,), 0), ((TOO_LONG,), 1)), (((0,), 0), ((0,), True)), (((0,), False), ((0,), 1)),
                         (((0,), 0), ((0,), 1), ((0,), 1)), ((0,), (0,)), ({}, {}), C2)
        for value in wrong:
            self.assertIs(is_choice(one, value), False)
            self.assertIs(is_split(one, value), False)
            self.refused(InvalidOperation, row_from, one, value)
        for value in WRONG + (C2, ZS, {}):
            self.refused(InvalidOperation, is_choice, value, None)
            self.refused(InvalidOperation, row_from, value, None)
            self.refused(InvalidOperation, is_split, value, None)
            self.refused(InvalidOperation, split, value)
            self.refused(InvalidOperation, finite_pair, value)
            self.refused(InvalidOperation, is_finite_pair, value, None)
        still = Layering(STILL, {})
        self.refused(TooMany, row_from, still, (((0,), 0), ((LONGEST,), 1)), limit=60)
        self.assertEqual(row_from(one, (((0,), 0), ((LONGEST,), 1))), {})


class FinitePairTest(Refusals, unittest.TestCase):
    def test_whole_floors(self):
        floors = (ZS, STILL, SWAP, PLANE, SIGN, WALL, Floor.still(C3, (0,)), Floor.still(V4, (0,)), Floor.still(C6, (0,)),
                  Floor.still(C4, (0,)), Floor.made(C4, (0,), {1: ((-1,),)}), Floor.still(S3, (0, 0)),
                  Floor.still(C1, (0,)), regular(C3, 0))
        for floor in floors:
            for row in closed_rows(floor) + closed_rows(floor, 10 ** 20):
                one = Layering(floor, row)
                seen = False
                for part in generated_rounds(floor.group):
                    if len(part) in (2, 3, 5, 7):
                        at = {member: index for index, member in enumerate(part)}
                        told = {(at[g], at[h]): row[(g, h)] for g, h in row if g in at and h in at}
                        seen = seen or source_of(seen_floor(floor, part), 2, told) is not None
                found = finite_pair(one)
                self.assertEqual(found is not None, seen)
                if found is not None:
                    self.assertIs(is_finite_pair(one, found), True)
                    self.assertNotEqual(one.turns(found), 0)
                    self.assertNotEqual(found, one.neutral)
                self.assertIs(is_finite_pair(one, one.neutral), False)
                for pair in some_pairs(floor):
                    self.assertIs(is_finite_pair(one, pair), pair != one.neutral and one.turns(pair) != 0)

    def test_great_groups(self):
        for group in (Q8, Group.round(16), Group.round(17)):
            floor = Floor.still(group, (0,))
            maker = {(g, h): (1,) for g in group for h in group
                     if group.moves[g][0] + group.moves[h][0] >= group.size} if group != Q8 else {}
            one = Layering(floor, maker)
            self.assertEqual(finite_pair(one) is None, group != Q8)

    def test_wrong_ones(self):
        for floor in (Z2, MIXED, TWIST):
            self.refused(InvalidOperation, finite_pair, Layering(floor, {}))
            self.refused(InvalidOperation, is_finite_pair, Layering(floor, {}), ((1,), 1))
        for wrong in WRONG + ((), ((0,),), ((TOO_LONG,), 1), [(0,), 1], ((0,), True)):
            self.assertIs(is_finite_pair(Layering(ZS, {}), wrong), False)
        self.assertIs(is_finite_pair(Layering(ZS, {}), ((5,), 1)), True)
        self.assertIs(is_finite_pair(Layering(ZS, {}), ((5,), 0)), False)


class NotTrueTest(unittest.TestCase):
    def test_rows_that_differ_by_a_change_make_unlike_layings(self):
        row = slow_change(Z2, 1, {(0,): (1,)})
        self.assertFalse(Layering(Z2, row) == Layering(Z2, {}))
        self.assertIsNotNone(source_of(Z2, 2, row_difference(Z2, 2, row, {})))

    def test_pairs_over_a_commuting_group_need_not_commute(self):
        floor = Floor.still(V4, (2,))
        self.assertEqual(class_list(floor, 2), (2, 2, 2))
        row = {(1, 2): (1,), (1, 3): (1,), (3, 2): (1,), (3, 3): (1,)}
        one = Layering(floor, row)
        self.assertNotEqual(one.joined(((0,), 1), ((0,), 2)), one.joined(((0,), 2), ((0,), 1)))


if __name__ == "__main__":
    unittest.main()
