"""Pairs and complements: points 0.14 and 6.1 to 6.6."""

import unittest
from itertools import product

from examples import (C1, C2, C3, C4, C6, LONGEST, MIXED, NO_FLOORS, NO_NUMBERS, PLANE, Refusals, S3, SIGN, SWAP,
                      TOO_LONG, TWIST, V4, WALL, WRONG, Z2, Z3, ZS, regular, some_row, slow_change, values_of)
from groupsover.base.floors import Floor, fixed_list
from groupsover.base.groups import Group
from groupsover.errors import InvalidFloor, InvalidOperation, InvalidRow, Refused, TooMany
from groupsover.laid import complements as module
from groupsover.laid.complements import (complement_lots, complement_row, complements, complements_number,
                                         is_complement, is_mover, is_pair, moved_complement, mover, pair_inverse,
                                         pair_order, pair_power, pair_product, row_complement)
from groupsover.rows.closed import class_list, class_makers, is_closed, source_of
from groupsover.rows.rows import row_difference

FINITE = (Z2, Z3, TWIST, Floor.still(V4, (2,)), Floor.still(V4, (2, 4)), regular(C2, 4), regular(C3, 2),
          Floor.made(S3, (3,), {1: ((-1,),), 2: ((-1,),)}), Floor.made(C4, (5,), {1: ((2,),)}), Floor.still(C4, (8,)),
          Floor.made(S3, (2, 2), {2: ((0, 1), (1, 0)), 3: ((0, -1), (1, -1))}), Floor.still(C1, (7, 2)),
          Floor.still(C6, (6,)))
NO_PAIRS = WRONG + ((), ((0,),), ((0,), 0, 0), [(0,), 0], ((0,), 2), ((0,), -1), ((0,), True), ((True,), 0),
                    ((0, 0), 0), ([0], 0), (0, 0), ((0,), None), ((TOO_LONG,), 0), ((0,), TOO_LONG), C2, ZS, (0, (0,)),
                    ((0,), (0,)))
NO_COMPLEMENTS = WRONG + ((), ((0,),), ((0,), (1,), (2,)), [(0,), (1,)], ([0], (1,)), ((True,), (1,)),
                          ((0,), (True,)), ((0,), (TOO_LONG,)), ((1,), (0,)), (0, 1), ((0,), None), C2, ZS,
                          ((0, 0), (1, 1)), ((0,), ("1",)))


def slow_complements(floor):
    """All complements, by asking all choices."""
    group = floor.group
    found = []
    for values in product(values_of(floor), repeat=group.size - 1):
        one = ((0,) * floor.places,) + values
        if all(one[group.product(g, h)] == floor.added(one[g], floor.moved(g, one[h])) for g in group for h in group):
            found.append(one)
    return found


class PairTest(Refusals, unittest.TestCase):
    def test_the_example(self):
        self.assertEqual([pair_product(ZS, ((3,), 1), ((5,), 1)), pair_inverse(ZS, ((3,), 0)),
                          pair_order(ZS, ((3,), 1)), pair_order(ZS, ((1,), 0))],
                         [((-2,), 0), ((-3,), 0), 2, 0])

    def test_constants(self):
        self.assertEqual((module.MOST_COMPLEMENTS, module.MOST_UNKNOWN), (2000, 300))

    def test_pairs_are_a_group(self):
        for floor in (Z2, TWIST, Floor.made(S3, (3,), {1: ((-1,),), 2: ((-1,),)})):
            pairs = [(value, member) for value in values_of(floor) for member in floor.group]
            one = ((0,) * floor.places, 0)
            for a in pairs:
                self.assertEqual(pair_product(floor, a, one), a)
                self.assertEqual(pair_product(floor, a, pair_inverse(floor, a)), one)
                self.assertEqual(pair_product(floor, pair_inverse(floor, a), a), one)
                for b in pairs:
                    joined = pair_product(floor, a, b)
                    self.assertEqual(joined, (floor.added(a[0], floor.moved(a[1], b[0])),
                                              floor.group.product(a[1], b[1])))
                    for c in pairs[::5]:
                        self.assertEqual(pair_product(floor, joined, c),
                                         pair_product(floor, a, pair_product(floor, b, c)))

    def test_powers_and_orders(self):
        for floor in (Z2, TWIST, ZS, MIXED, PLANE, WALL, Floor.made(C4, (5,), {1: ((2,),)})):
            one = ((0,) * floor.places, 0)
            values = values_of(floor) if floor.is_finite else [(0,) * floor.places, (1,) * floor.places,
                                                               (2,) + (1,) * (floor.places - 1)]
            for value in values:
                for member in floor.group:
                    pair, power, order = (value, member), one, 0
                    for number in range(1, 30):
                        power = pair_product(floor, power, pair)
                        self.assertEqual(pair_power(floor, pair, number), power)
                        self.assertEqual(pair_power(floor, pair, -number), pair_inverse(floor, power))
                        if power == one and not order:
                            order = number
                    self.assertEqual(pair_order(floor, pair), order)
                    self.assertEqual(pair_power(floor, pair, 0), one)
        self.assertEqual(pair_order(Floor.still(C2, (1000, 0)), ((1, 0), 0)), 1000)
        self.assertEqual(pair_order(Floor.still(C2, (1000, 9)), ((5, 6), 1)), 600)

    def test_great_powers(self):
        self.assertEqual(pair_power(ZS, ((LONGEST,), 1), LONGEST), ((LONGEST,), 1))
        self.assertEqual(pair_power(ZS, ((1,), 0), -LONGEST), ((-LONGEST,), 0))
        self.assertEqual(pair_power(Floor.still(C2, (7,)), ((3,), 1), 10 ** 59), ((3 * 10 ** 59 % 7,), 0))
        self.refused(TooMany, pair_power, ZS, ((2,), 0), LONGEST, limit=60)
        self.refused(TooMany, pair_product, ZS, ((LONGEST,), 0), ((1,), 0), limit=60)
        self.refused(TooMany, pair_inverse, PLANE, ((LONGEST, -LONGEST), 1), limit=60)
        self.assertEqual(pair_inverse(ZS, ((LONGEST,), 0)), ((-LONGEST,), 0))
        for wrong in NO_NUMBERS:
            self.refused_number(pair_power, wrong, ZS, ((1,), 0), wrong)

    def test_wrong_pairs(self):
        right = ((1,), 1)
        self.assertIs(is_pair(ZS, right), True)
        self.assertIs(is_pair(ZS, ((-LONGEST,), 0)), True)
        for wrong in NO_PAIRS:
            self.assertIs(is_pair(ZS, wrong), False)
            self.refused(InvalidOperation, pair_product, ZS, wrong, None)
            self.refused(InvalidOperation, pair_product, ZS, wrong, right)
            self.refused(InvalidOperation, pair_power, ZS, wrong, 2)
            self.refused(InvalidOperation, pair_product, ZS, right, wrong)
            self.refused(InvalidOperation, pair_inverse, ZS, wrong)
            self.refused(InvalidOperation, pair_power, ZS, wrong, None)
            self.refused(InvalidOperation, pair_order, ZS, wrong)
        self.assertIs(is_pair(Z2, ((2,), 0)), False)
        for wrong in NO_FLOORS:
            self.refused(InvalidFloor, is_pair, wrong, right)
            self.refused(InvalidFloor, pair_product, wrong, None, None)
            self.refused(InvalidFloor, pair_inverse, wrong, None)
            self.refused(InvalidFloor, pair_power, wrong, None, None)
            self.refused(InvalidFloor, pair_order, wrong, None)


class ComplementTest(Refusals, unittest.TestCase):
    def test_all_complements(self):
        for floor in FINITE:
            if floor.floor_size ** (floor.group.size - 1) > 20000:
                continue
            slow = slow_complements(floor)
            self.assertEqual(list(complements(floor)), sorted(slow))
            self.assertEqual(complements_number(floor), len(slow))
            for one in slow:
                self.assertIs(is_complement(floor, one), True)
                row = complement_row(floor, one)
                self.assertTrue(is_closed(floor, 1, row))
                self.assertEqual(row_complement(floor, row), one)
                self.assertEqual(one[0], (0,) * floor.places)
                for member in floor.group:
                    back = floor.group.inverse(member)
                    self.assertEqual(one[back], floor.subtracted(one[0], floor.moved(back, one[member])))

    def test_judged_complements(self):
        for floor in (Z2, TWIST, Z3):
            slow = slow_complements(floor)
            for values in product(values_of(floor), repeat=floor.group.size):
                self.assertIs(is_complement(floor, values), values in slow)
        for wrong in NO_COMPLEMENTS:
            self.assertIs(is_complement(ZS, wrong), False)
            self.refused(InvalidOperation, complement_row, ZS, wrong)
            self.refused(InvalidOperation, moved_complement, ZS, wrong, None)
            self.refused(InvalidOperation, mover, ZS, wrong, None)
            self.refused(InvalidOperation, mover, ZS, ((0,), (1,)), wrong)
            self.refused(InvalidOperation, is_mover, ZS, wrong, None, None)
            self.refused(InvalidOperation, mover, ZS, wrong, ((0,), (1,)))
            self.refused(InvalidOperation, is_mover, ZS, wrong, ((0,), (1,)), (0,))
            self.refused(InvalidOperation, moved_complement, ZS, wrong, (0,))
            self.refused(InvalidOperation, is_mover, ZS, ((0,), (1,)), wrong, None)
        self.assertIs(is_complement(ZS, ((0,), (LONGEST,))), True)

    def test_sums_of_complements(self):
        for floor in (TWIST, Floor.still(V4, (2, 4))):
            slow = slow_complements(floor)
            for one in slow:
                for other in slow:
                    self.assertIn(tuple(floor.added(a, b) for a, b in zip(one, other)), slow)
                    self.assertIn(tuple(floor.subtracted(a, b) for a, b in zip(one, other)), slow)

    def test_rows(self):
        for floor in (ZS, WALL, MIXED, SIGN):
            row = slow_change(floor, 0, some_row(floor, 0, 10 ** 40, 1))
            one = row_complement(floor, row)
            self.assertTrue(is_complement(floor, one))
            self.assertEqual(complement_row(floor, one), row)
            self.assertEqual(list(complement_row(floor, one)), sorted(row))
        for wrong in WRONG[:6] + WRONG[7:] + ({(1,): (0,)}, {(): (1,)}, {(1,): (True,)}, C2, {(1,): (TOO_LONG,)}):
            self.refused(InvalidRow, row_complement, ZS, wrong)
        self.refused(Refused, row_complement, ZS, {(0,): (1,)}, reason=("open",))
        self.refused(Refused, row_complement, Floor.still(C2, (0,)), {(1,): (1,)}, reason=("open",))
        self.assertEqual(row_complement(ZS, {}), ((0,), (0,)))

    def test_limits(self):
        for floor in (ZS, MIXED, Floor.still(Group.round(32), (0,))):
            self.refused(InvalidOperation, complements_number, floor)
            self.refused(InvalidOperation, complement_lots, floor)
        self.assertEqual(complements_number(Floor.still(Group.round(18), (2,))), 2)
        self.assertEqual(complements_number(Floor.still(C6, (6,) * 12)), 6 ** 12)
        for floor in (Floor.still(Group.round(19), (2,)), Floor.still(Group.round(7), (2,) * 9)):
            self.refused(TooMany, complements_number, floor, limit=300)
            self.refused(TooMany, complement_lots, floor, limit=300)
            self.refused(TooMany, lambda one: list(complements(one)), floor, limit=300)
        great = Floor.still(C6, (6,) * 5)
        self.assertEqual(complements_number(great), 7776)
        self.refused(TooMany, complement_lots, great, limit=2000)
        self.refused(TooMany, lambda one: list(complements(one)), great, limit=2000)
        edge = Floor.still(C2, (1000, 2))
        self.assertEqual(complements_number(edge), 4)
        turned = Floor.made(C2, (1000, 2), {1: ((-1, 0), (0, 1))})
        self.assertEqual(len(list(complements(turned))), 2000)
        self.refused(TooMany, complement_lots, Floor.made(C2, (1000, 3), {1: ((-1, 0), (0, -1))}), limit=2000)
        for wrong in NO_FLOORS:
            self.refused(InvalidFloor, complements_number, wrong)
            self.refused(InvalidFloor, complement_lots, wrong)
            self.refused(InvalidFloor, lambda one: list(complements(one)), wrong)
            self.refused(InvalidFloor, is_complement, wrong, None)
            self.refused(InvalidFloor, complement_row, wrong, None)
            self.refused(InvalidFloor, row_complement, wrong, None)
            self.refused(InvalidFloor, moved_complement, wrong, None, None)
            self.refused(InvalidFloor, mover, wrong, None, None)
            self.refused(InvalidFloor, is_mover, wrong, None, None, None)

    def test_a_generator_refuses_at_its_first_result(self):
        for floor, error in ((ZS, InvalidOperation), (None, InvalidFloor), (Floor.still(C6, (6,) * 5), TooMany)):
            found = complements(floor)
            self.assertIs(iter(found), found)
            self.refused(error, next, found)
        self.assertEqual(next(complements(Z3)), ((0,), (0,), (0,)))


class MoverTest(Refusals, unittest.TestCase):
    def test_moved_complements(self):
        for floor in FINITE:
            if floor.floor_size ** (floor.group.size - 1) > 3000:
                continue
            for one in slow_complements(floor):
                for value in values_of(floor):
                    moved = moved_complement(floor, one, value)
                    pairs = [pair_product(floor, pair_product(floor, (value, 0), (one[g], g)),
                                          pair_inverse(floor, (value, 0))) for g in floor.group]
                    self.assertEqual(moved, tuple(pair[0] for pair in pairs))
                    self.assertTrue(is_complement(floor, moved))
        for wrong in WRONG + ((), (0, 0), (True,), [0], (TOO_LONG,), C2):
            self.refused(InvalidRow, moved_complement, ZS, ((0,), (1,)), wrong)
            self.assertIs(is_mover(ZS, ((0,), (1,)), ((0,), (1,)), wrong), False)
        self.assertEqual(moved_complement(ZS, ((0,), (1,)), (3,)), ((0,), (7,)))
        self.refused(TooMany, moved_complement, ZS, ((0,), (LONGEST,)), (1,), limit=60)

    def test_movers_and_lots(self):
        for floor in FINITE:
            if floor.floor_size ** (floor.group.size - 1) > 20000:
                continue
            slow = slow_complements(floor)
            lots = {}
            for one in slow:
                lots[one] = {moved_complement(floor, one, value) for value in values_of(floor)}
            self.assertEqual(complement_lots(floor), tuple(sorted({min(lot) for lot in lots.values()})))
            number = 1
            for size in class_list(floor, 1):
                number *= size
            self.assertEqual(len(complement_lots(floor)), number)
            fixed = 1
            for size in fixed_list(floor):
                fixed *= size
            for one in slow[:12]:
                self.assertEqual(len(lots[one]), floor.floor_size // fixed)
                for other in slow[:12]:
                    found = mover(floor, one, other)
                    self.assertEqual(found is not None, other in lots[one])
                    difference = row_difference(floor, 1, complement_row(floor, one), complement_row(floor, other))
                    self.assertEqual(found is not None, source_of(floor, 1, difference) is not None)
                    if found is not None:
                        self.assertEqual(moved_complement(floor, one, found), other)
                    for value in values_of(floor):
                        self.assertIs(is_mover(floor, one, other, value),
                                      moved_complement(floor, one, value) == other)

    def test_whole_floors(self):
        self.assertEqual(mover(ZS, ((0,), (1,)), ((0,), (7,))), (3,))
        self.assertIsNone(mover(ZS, ((0,), (1,)), ((0,), (6,))))
        for floor in (PLANE, WALL, MIXED, SWAP):
            one = row_complement(floor, class_makers(floor, 1)[0] if class_list(floor, 1) else {})
            for seed in (1, 2):
                value = some_row(floor, 0, 10 ** 50, seed).get((), (0,) * floor.places)
                other = moved_complement(floor, one, value)
                found = mover(floor, one, other)
                self.assertIs(is_mover(floor, one, other, found), True)
                self.assertEqual(moved_complement(floor, one, found), other)

    def test_sixty_digits(self):
        part = LONGEST // 3
        zero = row_complement(PLANE, {})
        one = moved_complement(PLANE, zero, (2 * part, part))
        other = moved_complement(PLANE, zero, (-2 * part, -part))
        self.assertEqual(mover(PLANE, zero, one), (2 * part, part))
        # the only mover is twice as far
        self.refused(TooMany, mover, PLANE, one, other, limit=60)
        self.assertIs(is_mover(PLANE, one, other, (-4 * part, -2 * part)), False)
        self.assertEqual(mover(ZS, ((0,), (-LONGEST,)), ((0,), (LONGEST,))), (LONGEST,))

    def test_unlike_sizes_move_all(self):
        for floor in (Floor.made(C2, (9,), {1: ((-1,),)}), Floor.made(C4, (5,), {1: ((2,),)}),
                      Floor.made(S3, (5, 5), {2: ((0, 1), (1, 0)), 3: ((0, -1), (1, -1))})):
            self.assertEqual(len(complement_lots(floor)), 1)

    def test_lots_of_many_complements(self):
        floor = Floor.made(C3, (31, 31), {1: ((0, -1), (1, -1))})
        self.assertEqual((complements_number(floor), len(complement_lots(floor))), (961, 1))
        still = Floor.still(C6, (6, 6, 6, 6))
        self.assertEqual(complement_lots(still), tuple(complements(still)))

    def test_not_true(self):
        # a choice of pairs that is no complement
        self.assertIs(is_complement(Floor.still(C2, (4,)), ((0,), (1,))), False)
        # complements with equal orders of all pairs that are not moved to one another
        floor = Floor.still(V4, (2,))
        found = list(complements(floor))
        self.assertEqual(len(found), 4)
        orders = {tuple(pair_order(floor, (value, member)) for member, value in enumerate(one)) for one in found}
        self.assertEqual(orders, {(1, 2, 2, 2)})
        self.assertIsNone(mover(floor, found[0], found[1]))


if __name__ == "__main__":
    unittest.main()
