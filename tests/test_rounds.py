"""Rounds: points 0.16 and 11.1 to 11.7."""

import unittest
from math import gcd

from examples import (A4, C1, C2, C3, C4, C5, C6, D4, LONGEST, MIXED, NO_FLOORS, NO_GROUPS, NO_NUMBERS, PLANE, Q8,
                      Refusals, S3, SIGN, SWAP, TWIST, V4, WALL, WRONG, Z2, Z3, ZS, regular, slow_change,
                      some_row, values_of, wrong_rows, wrong_values)
from groupsover.base.floors import Floor, fixed_list
from groupsover.base.groups import Group
from groupsover.errors import InvalidFloor, InvalidGroup, InvalidNumber, InvalidOperation, InvalidRow, Refused, TooMany
from groupsover.ladders import rounds
from groupsover.ladders.ladders import ladder_list, round_ladder
from groupsover.ladders.rounds import (maker_of, round_list, round_row, round_source, round_value, size_quotient,
                                       turned_list)
from groupsover.rows.closed import class_list, class_makers, is_closed, source_of
from groupsover.rows.rows import row_sum, row_times

LINE = Floor.still(C6, (0,))
ROUNDS = (ZS, Z2, Z3, SWAP, MIXED, TWIST, PLANE, Floor.still(C2, (0,)), Floor.still(C3, (0, 9)), Floor.still(C4, (0, 8)),
          Floor.made(C4, (5,), {1: ((2,),)}), Floor.made(C4, (0, 0), {1: ((0, -1), (1, 0))}), regular(C4, 6), LINE,
          regular(C3, 0), Floor.still(C5, (0, 25)), Floor.still(C1, (0, 3)), Floor.still(C6, (4, 6)),
          Floor.made(C4, (0,), {1: ((-1,),)}), Floor.made(C6, (8, 0), {1: ((3, 4), (0, 1))}),
          Floor.made(C2, (0, 0), {1: ((1, 10 ** 20), (0, -1))}), Floor.still(Group.both(C2, C3), (6,)))
FINITE = tuple(floor for floor in ROUNDS if floor.is_finite)
NO_ROUNDS = (Floor.still(V4, (2,)), WALL, SIGN, Floor.still(Q8, (0,)))


def powers(floor):
    """The powers of the least maker."""
    group, maker = floor.group, maker_of(floor.group)
    return [group.power(maker, number) for number in range(group.size)]


def less(floor, value):
    """D x."""
    return floor.subtracted(floor.moved(maker_of(floor.group), value), value)


def whole(floor, value):
    """S x."""
    total = (0,) * floor.places
    for member in floor.group:
        total = floor.added(total, floor.moved(member, value))
    return total


def some_values(floor, bound):
    """Some values, also those that D and S make."""
    found = [some_row(floor, 0, bound, seed).get((), (0,) * floor.places) for seed in range(4)]
    return found + [less(floor, value) for value in found] + [whole(floor, value) for value in found]


def slow_order(floor, kept, made):
    """How many values there are in the one list modulo those of the other one."""
    return len(set(kept)) // len(set(made))


class RoundListTest(Refusals, unittest.TestCase):
    def test_the_example(self):
        self.assertEqual([maker_of(C3), maker_of(V4), round_list(PLANE, 10 ** 20), round_list(PLANE, -7),
                          round_list(LINE, 0), size_quotient(LINE), size_quotient(ZS)],
                         [1, None, (), (3,), (6,), (6, 1), (1, 2)])

    def test_constants(self):
        self.assertEqual(rounds.MOST_ROUND_STEP, 4)

    def test_makers(self):
        for group in (C1, C2, C3, C4, C5, C6, V4, S3, D4, Q8, A4, Group.round(32), Group.both(C2, C3), Group.both(C2, C4)):
            makers = [member for member in group if group.order(member) == group.size]
            self.assertEqual(maker_of(group), makers[0] if makers else None)
        for wrong in NO_GROUPS:
            self.refused(InvalidGroup, maker_of, wrong)

    def test_lists_of_classes(self):
        for floor in ROUNDS:
            ladder = round_ladder(floor.group, maker_of(floor.group), 6)
            for step in range(1, 6):
                found = round_list(floor, step)
                self.assertEqual(found, ladder_list(ladder, floor, step))
                if step < 5 and (floor.group.size - 1) ** (step + 1) * floor.places <= 300:
                    self.assertEqual(found, class_list(floor, step))
                for further in (step + 2, step - 2, step - 10 ** 40, step + LONGEST - 9, -step):
                    self.assertEqual(round_list(floor, further), round_list(floor, 2 - further % 2))
            self.assertEqual(round_list(floor, 0), turned_list(floor, 0))
            self.assertEqual(round_list(floor, -1), turned_list(floor, -1))

    def test_finite_lists_by_all_values(self):
        for floor in FINITE:
            values = values_of(floor)
            zero = (0,) * floor.places
            makers = range(floor.group.size)
            fixed = [x for x in values if all(floor.moved(g, x) == x for g in makers)]
            gone = [x for x in values if whole(floor, x) == zero]
            made = [less(floor, x) for x in values]
            products = []
            for step, kept, parts in ((0, fixed, [whole(floor, x) for x in values]), (-1, gone, made)):
                number = 1
                for size in round_list(floor, step):
                    number *= size
                products.append(number)
                self.assertEqual(number, slow_order(floor, kept, parts))
                # the list tells how many are 0 so many times, too
                for times in (2, 3, 4):
                    wanted = 1
                    for size in round_list(floor, step):
                        wanted *= gcd(size, times)
                    told = {x for x in kept if floor.repeated(times, x) in set(parts)}
                    self.assertEqual(len(told), wanted * len(set(parts)))
            self.assertEqual(products[0], products[1])
            self.assertEqual(size_quotient(floor), (1, 1))

    def test_turned_lists_over_any_group(self):
        for floor in (WALL, SIGN, Floor.still(V4, (0,)), Floor.still(V4, (8,)), Floor.still(S3, (0, 6)), regular(V4, 4),
                      Floor.still(Q8, (4,)), Floor.made(S3, (9,), {1: ((-1,),), 2: ((-1,),)}), Floor.still(A4, (0,)),
                      regular(S3, 0), Floor.made(S3, (2, 2), {2: ((0, 1), (1, 0)), 3: ((0, -1), (1, -1))}),
                      Floor.made(V4, (4,), {1: ((-1,),), 2: ((1,),)})):
            for step in (0, -1):
                found = turned_list(floor, step)
                for lower, upper in zip(found, found[1:]):
                    self.assertEqual(upper % lower, 0)
                self.assertTrue(all(floor.group.size % size == 0 and size > 1 for size in found))
            if not floor.is_finite:
                continue
            values, zero = values_of(floor), (0,) * floor.places
            fixed = [x for x in values if all(floor.moved(g, x) == x for g in floor.group)]
            made = {zero}
            for g in floor.group:
                lead = {floor.subtracted(floor.moved(g, x), x) for x in values}
                made = {floor.added(x, y) for x in made for y in lead}
            gone = [x for x in values if whole(floor, x) == zero]
            for step, kept, parts in ((0, fixed, [whole(floor, x) for x in values]), (-1, gone, made)):
                number = 1
                for size in turned_list(floor, step):
                    number *= size
                self.assertEqual(number, slow_order(floor, kept, parts))
        self.assertEqual(turned_list(Floor.still(S3, (0,)), 0), (6,))
        self.assertEqual(turned_list(Floor.still(V4, (0,)), 0), (4,))
        self.assertEqual(turned_list(Floor.still(V4, (0,)), -1), ())
        self.assertEqual(turned_list(SIGN, -1), (2,))
        self.assertEqual((turned_list(regular(S3, 0), 0), turned_list(regular(S3, 0), -1)), ((), ()))

    def test_wrong_arguments(self):
        for call, more in ((round_list, (None,)), (round_row, (None, None)), (round_source, (None, None)),
                           (round_value, (None, None)), (size_quotient, ())):
            for wrong in NO_FLOORS:
                self.refused(InvalidFloor, call, wrong, *more)
            for floor in NO_ROUNDS:
                self.refused(InvalidOperation, call, floor, *more)
        for wrong in NO_FLOORS:
            self.refused(InvalidFloor, turned_list, wrong, 9)
        for wrong in NO_NUMBERS:
            self.refused_number(round_list, wrong, ZS, wrong)
            self.refused_number(turned_list, wrong, ZS, wrong)
        for wrong in (1, -2, 2, LONGEST):
            self.refused_number(turned_list, wrong, WALL, wrong)
        self.assertEqual(round_list(ZS, LONGEST), (2,))
        self.assertEqual(round_list(ZS, -LONGEST), (2,))
        for call in (round_row, round_source):
            self.refuse_in_order(call, (ZS, 2, (0,)), [(1, NO_NUMBERS + (0, 3, -1), InvalidNumber),
                                                       (2, wrong_values(ZS), InvalidRow)])
            self.refused(Refused, call, ZS, 2, (1,), reason=("open",))
            self.refused(Refused, call, Floor.still(C2, (0,)), 1, (1,), reason=("open",))
        self.refuse_in_order(round_value, (ZS, 1, {}), [(1, NO_NUMBERS + (0, 5, -1), InvalidNumber),
                                                        (2, wrong_rows(ZS, 1), InvalidRow)])
        self.refused(Refused, round_value, Floor.still(C2, (0,)), 1, {(1,): (1,)}, reason=("open",))
        great = Floor.still(Group.round(18), (0,))
        self.refused(TooMany, round_value, great, 2, {(1, 1): (1,)}, limit=5000)
        self.refused(InvalidRow, round_value, great, 2, {(1,): (1,)})
        self.refused(Refused, round_value, Floor.still(Group.round(17), (0,)), 2, {(1, 1): (1,)}, reason=("open",))


class RoundRowTest(Refusals, unittest.TestCase):
    def test_rows_and_sources(self):
        for floor in ROUNDS:
            zero, told = (0,) * floor.places, powers(floor)
            for x in some_values(floor, 5) + some_values(floor, 10 ** 30)[:6]:
                for step in (1, 2):
                    open_row = whole(floor, x) if step == 1 else less(floor, x)
                    if open_row != zero:
                        self.refused(Refused, round_row, floor, step, x, reason=("open",))
                        continue
                    row = round_row(floor, step, x)
                    self.assertEqual(row, self.slow_row(floor, step, x))
                    self.assertEqual(list(row), sorted(row))
                    self.assertTrue(is_closed(floor, step, row))
                    y = round_source(floor, step, x)
                    self.assertEqual(y is None, source_of(floor, step, row) is None)
                    if y is not None:
                        self.assertEqual(less(floor, y) if step == 1 else whole(floor, y), x)
                    if floor.group.size > 1:
                        self.assertEqual(round_value(floor, step, row), x)
            self.assertEqual(len(set(told)), floor.group.size)

    def slow_row(self, floor, step, x):
        """The row of a value, by its words."""
        told, zero, found = powers(floor), (0,) * floor.places, {}
        for i, one in enumerate(told):
            if step == 1:
                total = zero
                for power in told[:i]:
                    total = floor.added(total, floor.moved(power, x))
                found[(one,)] = total
            else:
                for j, other in enumerate(told):
                    found[(one, other)] = x if i + j >= len(told) else zero
        return {members: found[members] for members in found if any(found[members])}

    def test_values_of_rows(self):
        for floor in ROUNDS:
            zero, told, m = (0,) * floor.places, powers(floor), floor.group.size
            t = told[1 % m]
            for step in (1, 2, 3, 4):
                if m ** (step + 1) > 1300 or m ** (step + 1) * floor.places > 2500:
                    continue
                row = slow_change(floor, step - 1, some_row(floor, step - 1, 5, step))
                rows = [row]
                if (m - 1) ** (step + 1) * floor.places <= 300:
                    for times, maker in enumerate(class_makers(floor, step), 1):
                        rows.append(row_sum(floor, step, rows[-1], row_times(floor, step, times, maker)))
                for row in rows:
                    asked = {1: [(t,)], 2: [(a, t) for a in told], 3: [(t, a, t) for a in told],
                             4: [(a, t, b, t) for a in told for b in told]}[step]
                    total = zero
                    for members in asked:
                        total = floor.added(total, row.get(members, zero))
                    found = round_value(floor, step, row)
                    self.assertEqual(found, total)
                    self.assertEqual(whole(floor, found) if step % 2 else less(floor, found), zero)
                    self.assertEqual(round_source(floor, 2 - step % 2, found) is None,
                                     source_of(floor, step, row) is None)

    def test_great_rounds(self):
        floor = Floor.still(Group.round(32), (0,))
        row = round_row(floor, 2, (LONGEST,))
        self.assertEqual((len(row), row[(31, 31)]), (31 * 32 // 2, (LONGEST,)))
        self.assertEqual(round_source(floor, 2, (32 * 5,)), (5,))
        self.assertIsNone(round_source(floor, 2, (33,)))
        turned = Floor.made(Group.round(32), (0,), {1: ((-1,),)})
        self.assertEqual(round_row(turned, 1, (LONGEST,)), {(g,): (LONGEST,) for g in range(1, 32, 2)})
        self.assertIsNone(round_source(turned, 1, (LONGEST,)))
        self.assertEqual(round_source(turned, 1, (LONGEST - 1,)), (-(LONGEST - 1) // 2,))

    def test_sixty_digits(self):
        floor = regular(C3, 0)
        value = (LONGEST, -LONGEST, 0)
        self.assertEqual(whole(floor, value), (0, 0, 0))
        self.assertEqual(round_row(floor, 1, value)[(1,)], value)
        four = regular(C4, 0)
        self.refused(TooMany, round_row, four, 1, (LONGEST, LONGEST, -LONGEST, -LONGEST), limit=60)
        floor = regular(C2, 0)
        self.assertEqual(round_source(floor, 2, (LONGEST, LONGEST)), (LONGEST, 0))
        # what is added up is too long, though the row is not
        still = Floor.still(C2, (0,))
        row = {members: (LONGEST,) for members in ((0, 0), (0, 1), (1, 0), (1, 1))}
        self.assertEqual(row, slow_change(still, 1, {(0,): (LONGEST,), (1,): (LONGEST,)}))
        self.refused(TooMany, round_value, still, 2, row, limit=60)
        row[(1, 1)] = (-LONGEST,)
        self.assertEqual(round_value(still, 2, row), (0,))

    def test_quotients(self):
        for floor in ROUNDS:
            top, bottom = 1, 1
            for size in round_list(floor, 0):
                top *= size
            for size in round_list(floor, 1):
                bottom *= size
            divisor = gcd(top, bottom)
            self.assertEqual(size_quotient(floor), (top // divisor, bottom // divisor))

    def test_not_true(self):
        # the list of the step 0 of all fixed values is not that of the step 2
        self.assertNotEqual(class_list(ZS, 0), (2,))
        self.assertEqual(fixed_list(LINE), (0,))
        self.assertEqual(round_list(LINE, 2), (6,))
        # lists of two steps with unlike products
        self.assertNotEqual(size_quotient(ZS), (1, 1))
        # the quotient is (1, 1), and the floor is not finite
        self.assertEqual((size_quotient(SWAP), SWAP.is_finite), ((1, 1), False))
        for wrong in WRONG:
            self.refused(InvalidFloor, size_quotient, wrong)


if __name__ == "__main__":
    unittest.main()
