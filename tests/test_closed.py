"""Closed rows, changes, tests and classes: points 0.11 to 0.14, 0.17 to 0.19 and 5.1 to 5.6."""

import random
import unittest
from fractions import Fraction
from itertools import product
from math import gcd, lcm

from examples import (C1, C2, C3, C4, C5, C6, D4, E8, E32, GREAT, LONGEST, MIXED, NO_FLOORS, NO_NUMBERS, PLANE, Q8, Refusals,
                      S3, SIGN, SWAP, TOO_LONG, TWIST, V4, WALL, WRONG, Z2, Z3, ZS, orders_in_list, regular, slow_change,
                      some_row, tuples_of, values_of)
from groupsover.base.floors import Floor, fixed_list, floor_sum, seen_floor
from groupsover.base.groups import Group, prime_part
from groupsover.errors import InvalidFloor, InvalidNumber, InvalidRow, InvalidTest, Refused, TooMany
from groupsover.rows import closed
from groupsover.rows.closed import (are_class_makers, are_one_class, class_list, class_makers, class_order, class_place,
                                    is_closed, is_source, is_test, source_of, test_for as bar_for,
                                    test_value as value_of_test)
from groupsover.rows.rows import change, is_row, row_difference, row_sum, row_times

NO_STEPS = NO_NUMBERS + (-1, 0, 5)
FLOORS = (Z2, ZS, SWAP, MIXED, TWIST, PLANE, Z3, SIGN, WALL, Floor.still(V4, (0, 4)), Floor.still(C6, (0, 2, 6)),
          Floor.still(C4, (8,)), Floor.made(C4, (0,), {1: ((-1,),)}), regular(C2, 4), regular(V4, 0),
          Floor.made(C4, (0, 0), {1: ((0, -1), (1, 0))}), Floor.still(C1, (0, 3)),
          Floor(C2, (0, 2), (((1, 0), (0, 1)), ((1, 0), (1, 1)))), Floor.made(S3, (9,), {1: ((-1,),), 2: ((-1,),)}),
          # here a class comes of parts that do not come apart
          Floor.made(Group.round(9), (9, 3), {1: ((7, 0), (2, 1))}), Floor.made(C6, (8, 0), {1: ((3, 4), (0, 1))}),
          Floor.made(Group.round(8), (16, 4), {1: ((15, 4), (1, 3))}),
          Floor.made(Group.round(8), (0, 8, 8), {1: ((-1, 0, 0), (3, 7, 2), (6, 2, 7))}),
          Floor.made(Group.round(8), (0, 4, 8), {1: ((-1, 0, 0), (1, 3, 2), (0, 4, 5))}),
          Floor.made(Group.round(8), (16, 4, 8), {1: ((13, 0, 0), (0, 1, 3), (6, 0, 1))}))


def listed_steps(floor, most):
    """The steps for which classes can be told, with at most so many tuples."""
    return [step for step in (1, 2, 3, 4) if (floor.group.size - 1) ** (step + 1) * floor.places <= 300
            and floor.group.size ** (step + 1) <= most]


def some_closed(floor, step, bound, seed):
    """A closed row, and how many of each maker it has."""
    source = random.Random(seed)
    row = slow_change(floor, step - 1, some_row(floor, step - 1, bound, seed))
    place = tuple(source.randrange(number) for number in class_list(floor, step))
    for times, maker in zip(place, class_makers(floor, step)):
        row = row_sum(floor, step, row, row_times(floor, step, times, maker))
    return row, place


def add_bound(sums, floor, members, ratios):
    """Add the test that asks the change of a row at some members, so that all changes come to 0."""
    step = len(members) - 1
    table = floor.tables[members[0]]
    moved = [sum(ratio * row[place] for ratio, row in zip(ratios, table)) for place in range(floor.places)]
    parts = [(members[1:], 1, moved), (members[:-1], (-1) ** (step + 1), ratios)]
    for at in range(step):
        joined = floor.group.product(members[at], members[at + 1])
        parts.append((members[:at] + (joined,) + members[at + 2:], (-1) ** (at + 1), ratios))
    for at, times, fractions in parts:
        known = sums.get(at, [Fraction(0)] * floor.places)
        sums[at] = [one + times * other for one, other in zip(known, fractions)]


def ratios_of(sums):
    """A test of fractions."""
    test = {}
    for members in sorted(sums):
        parts = [fraction - fraction.__floor__() for fraction in sums[members]]
        if any(parts):
            test[members] = tuple((part.numerator, part.denominator) for part in parts)
    return test


def all_rows(floor, step):
    """All rows of a finite floor."""
    tuples = tuples_of(floor.group, step)
    for values in product(values_of(floor), repeat=len(tuples)):
        yield {members: value for members, value in zip(tuples, values) if any(value)}


def slow_value(floor, test, row):
    """The value of a test at a row, by fractions."""
    value = Fraction(0)
    for members in row:
        for (top, bottom), entry in zip(test.get(members, ((0, 1),) * floor.places), row[members]):
            value += Fraction(top, bottom) * entry
    value = value - value.__floor__()
    return value.numerator, value.denominator


def is_slow_test(floor, step, test):
    """Whether a dict of ratios is (0, 1) at all changes of rows with one entry."""
    for members in tuples_of(floor.group, step - 1):
        for place in range(floor.places):
            unit = {members: tuple(int(at == place) for at in range(floor.places))}
            if slow_value(floor, test, slow_change(floor, step - 1, unit)) != (0, 1):
                return False
    return True


class MainPromiseTest(Refusals, unittest.TestCase):
    def test_constants(self):
        self.assertEqual((closed.MAX_LISTED, closed.MAX_BOTTOM), (300, 10 ** 6))

    def look_at(self, floor, step, row, place, numbers):
        """Either a source or a test, and all that hangs on it."""
        self.assertTrue(is_closed(floor, step, row))
        source, test = source_of(floor, step, row), bar_for(floor, step, row)
        self.assertEqual(source is not None, not any(place))
        self.assertEqual(test is None, not any(place))
        if source is not None:
            self.assertTrue(is_row(floor, step - 1, source))
            self.assertEqual(slow_change(floor, step - 1, source), row)
            self.assertTrue(is_source(floor, step, row, source))
            self.assertEqual(list(source), sorted(source))
        else:
            self.assertTrue(is_test(floor, step, test))
            self.assertTrue(is_slow_test(floor, step, test))
            self.assertNotEqual(value_of_test(floor, step, test, row), (0, 1))
            self.assertEqual(value_of_test(floor, step, test, row), slow_value(floor, test, row))
            self.assertEqual(list(test), sorted(test))
            multiple = floor.group.size * lcm(1, *[rest for rest in floor.rests if rest])
            for ratios in test.values():
                for (_, bottom), rest in zip(ratios, floor.rests):
                    self.assertEqual((rest or multiple) % bottom, 0)
        order = lcm(1, *[number // gcd(times, number) for times, number in zip(place, numbers)])
        self.assertEqual(class_order(floor, step, row), order)
        self.assertEqual(class_place(floor, step, row), place)
        self.assertIs(are_one_class(floor, step, row, {}), order == 1)

    def test_either_a_source_or_a_test(self):
        for floor in FLOORS + (GREAT,):
            for step in listed_steps(floor, 700):
                numbers = class_list(floor, step)
                for seed, bound in ((1, 5), (2, 10 ** 20)):
                    row, place = some_closed(floor, step, bound, seed)
                    self.look_at(floor, step, row, place, numbers)
                self.look_at(floor, step, {}, (0,) * len(numbers), numbers)

    def test_great_integers(self):
        for floor in (ZS, Floor.still(C2, (0,)), Floor.still(C3, (0, 3)), PLANE, SWAP, MIXED):
            for step in (1, 2, 3):
                row, place = some_closed(floor, step, 10 ** 58, 3)
                self.look_at(floor, step, row, place, class_list(floor, step))
        self.assertEqual(source_of(ZS, 1, {(1,): (-LONGEST + 1,)}), {(): ((LONGEST - 1) // 2,)})
        still = Floor.still(C2, (0,))
        ones = {members: (LONGEST,) for members in tuples_of(C2, 4)}
        self.assertTrue(is_source(still, 4, ones, source_of(still, 4, ones)))
        self.assertEqual(bar_for(ZS, 1, {(1,): (LONGEST,)}), {(1,): ((1, 2),)})

    def test_edges_of_size(self):
        for floor, step in ((Floor.still(C5, (0,)), 4), (Floor.still(C5, (25,)), 4), (Floor.still(V4, (0,)), 4),
                            (Floor.still(Q8, (0,)), 3), (Floor.still(E8, (0, 2)), 3), (regular(D4, 0), 2),
                            (Floor.still(Group.round(17), (0, 34)), 2), (Floor.still(E32, (0, 2)), 1),
                            (Floor.still(Group.round(32), (32, 0)), 1), (Floor.still(C2, (0,) * 6 + (4,) * 6), 4),
                            (regular(C5, 0), 4)):
            row = change(floor, step - 1, some_row(floor, step - 1, 10 ** 9, 1))
            source = source_of(floor, step, row)
            self.assertTrue(is_source(floor, step, row, source))
            self.assertIsNone(bar_for(floor, step, row))
            self.assertEqual(class_order(floor, step, row), 1)

    def test_tests_at_great_sizes(self):
        round_17 = Group.round(17)
        floor = Floor.still(round_17, (0,))
        at = {round_17.power(1, number): number for number in range(17)}
        row = {(g, h): (1,) for g in round_17 for h in round_17 if at[g] + at[h] >= 17}
        self.assertTrue(is_closed(floor, 2, row))
        test = bar_for(floor, 2, row)
        self.assertTrue(is_test(floor, 2, test))
        self.assertNotEqual(value_of_test(floor, 2, test, row), (0, 1))
        self.assertEqual(class_order(floor, 2, row), 17)
        parity = Floor.still(E32, (2,))
        row = {(member,): (1,) for member in E32 if member % 2}
        self.assertTrue(is_test(parity, 1, bar_for(parity, 1, row)))
        self.assertEqual(class_order(parity, 1, row), 2)

    def test_rows_are_changes_if_their_prime_parts_are(self):
        for floor in (Floor.still(S3, (0,)), Floor.still(S3, (6,)), WALL, SIGN, Floor.still(C6, (0, 6)),
                      Floor.made(S3, (3,), {1: ((-1,),), 2: ((-1,),)})):
            for step in listed_steps(floor, 300):
                for seed in (1, 2, 3, 4):
                    row, place = some_closed(floor, step, 5, seed)
                    changes = []
                    for prime in (2, 3):
                        part = prime_part(floor.group, prime)
                        seen = {tuple(part.index(member) for member in members): row[members] for members in row
                                if all(member in part for member in members)}
                        changes.append(source_of(seen_floor(floor, part), step, seen) is not None)
                    self.assertIs(all(changes), not any(place))

    def test_closed_2_rows_are_groups_of_pairs(self):
        for floor in (Z2, Floor.still(C2, (4,)), Floor.made(C2, (3,), {1: ((-1,),)})):
            pairs = [(x, g) for x in values_of(floor) for g in floor.group]
            for row in all_rows(floor, 2):
                def joined(one, other):
                    g, h = one[1], other[1]
                    value = floor.added(one[0], floor.moved(g, other[0]))
                    return floor.added(value, row.get((g, h), (0,))), floor.group.product(g, h)
                grouped = all(joined(joined(a, b), c) == joined(a, joined(b, c))
                              for a in pairs for b in pairs for c in pairs)
                self.assertIs(is_closed(floor, 2, row), grouped)
                if not grouped:
                    continue
                choices = product(values_of(floor), repeat=2)
                split = any(all(joined((c[g], g), (c[h], h)) == (c[floor.group.product(g, h)], floor.group.product(g, h))
                                for g in floor.group for h in floor.group) for c in choices)
                self.assertIs(source_of(floor, 2, row) is not None, split)

    def test_not_true(self):
        # a closed row that is no change, though it is one seen from all parts that one member makes
        still = Floor.still(V4, (0,))
        row = class_makers(still, 3)[0]
        self.assertIsNone(source_of(still, 3, row))
        for member in V4:
            part = tuple(sorted({0, member}))
            seen = {tuple(part.index(g) for g in members): row[members] for members in row
                    if all(g in part for g in members)}
            self.assertIsNotNone(source_of(seen_floor(still, part), 3, seen))
        # without values that all members leave something is left
        self.assertEqual((fixed_list(ZS), class_list(ZS, 1)), ((), (2,)))


class JudgedTest(Refusals, unittest.TestCase):
    def test_closed_rows(self):
        for floor in (Z2, TWIST):
            for step in (1, 2):
                if floor.floor_size ** (2 ** step) <= 5000:
                    for row in all_rows(floor, step):
                        self.assertIs(is_closed(floor, step, row), slow_change(floor, step, row) == {})
        for wrong in WRONG[:6] + WRONG[7:] + ({(0,): (1,)}, {(1,): (2,)}, {(1,): (True,)}, {(1,): [1]}, {(1, 1): (1,)},
                                              {(1,): (0,)}, C2, Z2, {(1,): (TOO_LONG,)}):
            self.assertIs(is_closed(Z2, 1, wrong), False)
        self.assertIs(is_closed(Z2, 1, {(1,): (1,)}), True)
        self.assertIs(is_closed(Floor.still(C2, (0,)), 1, {(1,): (1,)}), False)

    def test_sources(self):
        row = {(1,): (4,)}
        for wrong in WRONG[:6] + WRONG[7:] + ({(): (2,)}, {}, {(0,): (-2,)}, {(): (True,)}, {(): [-2]}, (-2,),
                                              {(): (-2, 0)}, {(): (TOO_LONG,)}, C2):
            self.assertIs(is_source(ZS, 1, row, wrong), False)
        self.assertIs(is_source(ZS, 1, row, {(): (-2,)}), True)
        # each source is accepted, whoever made it
        for source in all_rows(Floor.still(C2, (4,)), 1):
            floor = Floor.still(C2, (4,))
            self.assertIs(is_source(floor, 2, slow_change(floor, 1, source), source), True)
            self.assertIs(is_source(floor, 2, {}, source), slow_change(floor, 1, source) == {})

    def test_what_is_a_test(self):
        seen = {True: 0, False: 0}
        for floor, step in ((Z2, 1), (Z2, 2), (ZS, 1), (TWIST, 1), (MIXED, 1)):
            ratios = [[(top, bottom) for bottom in (1, 2, 3, 4, 6) if (rest or 12) % bottom == 0
                       for top in range(bottom) if gcd(top, bottom) == 1] for rest in floor.rests]
            tuples = tuples_of(floor.group, step)
            for values in product(product(*ratios), repeat=len(tuples)):
                test = {members: value for members, value in zip(tuples, values)
                        if any(top for top, _ in value)}
                right = is_slow_test(floor, step, test)
                seen[right] += 1
                self.assertIs(is_test(floor, step, test), right)
        self.assertGreater(min(seen.values()), 50)
        self.assertIs(is_test(WALL, 2, {}), True)

    def test_what_is_no_test(self):
        right = {(1,): ((1, 2),)}
        self.assertIs(is_test(ZS, 1, right), True)
        for wrong in WRONG[:6] + WRONG[7:] + (
                {(1,): ((2, 4),)}, {(1,): ((1, 3),)}, {(1,): ((0, 1),)}, {(1,): ((0, 2),)}, {(1,): ((3, 2),)},
                {(1,): ((-1, 2),)}, {(1,): ((True, 2),)}, {(1,): ((1, 2), (0, 1))}, {(1,): (1, 2)}, {(1,): ()},
                {(1,): [(1, 2)]}, {(1,): ([1, 2],)}, {(1,): ((1, 2, 3),)}, {(True,): ((1, 2),)}, {(2,): ((1, 2),)},
                {(): ((1, 2),)}, {(1, 1): ((1, 2),)}, {1: ((1, 2),)}, {(1,): None}, {(1,): (None,)}, {(1,): ((1, 0),)},
                {(1,): ((1, TOO_LONG),)}, {(1,): ((1, -2),)}, C2, ((1, 2),), {(1,): ((1, 2),), (0,): ((0, 1),)},
                {"1": ((1, 2),)}, {None: ((1, 2),)}):
            self.assertIs(is_test(ZS, 1, wrong), False)
            self.refused(InvalidTest, value_of_test, ZS, 1, wrong, None)
        # at a place with a rest the bottom divides it
        self.assertIs(is_test(Z2, 1, {(1,): ((1, 2),)}), True)
        self.assertIs(is_test(Floor.still(C2, (4,)), 1, {(1,): ((3, 4),)}), True)
        self.assertIs(is_test(Z2, 1, {(1,): ((1, 4),)}), False)
        self.assertIs(is_test(Floor.still(C2, (0, 2)), 1, {(1,): ((1, 4), (1, 2))}), True)
        self.assertIs(is_test(Floor.still(C2, (0, 2)), 1, {(1,): ((1, 2), (1, 4))}), False)

    def test_bottoms_to_a_million(self):
        still = Floor.still(C2, (0,))
        self.assertIs(is_test(still, 1, {(1,): ((1, 10 ** 6),)}), True)
        self.assertIs(is_test(still, 1, {(1,): ((1, 10 ** 6 + 1),)}), False)
        unlike = {(member,): ((1, 999983 - 2 * member),) for member in E32}
        self.assertIs(is_test(Floor.still(E32, (0,)), 1, unlike), True)
        value = value_of_test(still, 1, {(1,): ((1, 10 ** 6),)}, {(1,): (LONGEST,)})
        self.assertEqual(value, (999999, 10 ** 6))
        wide = Floor.still(C5, (0,))
        test = {(1, 1): ((1, 999983),), (1, 0): ((1, 999979),)}
        self.assertIs(is_test(wide, 2, test), is_slow_test(wide, 2, test))

    def test_tests_of_greater_steps(self):
        for floor, step, most in ((Floor.still(C3, (0,)), 3, 99), (Floor.still(C3, (0, 9)), 4, 7), (PLANE, 2, 60),
                                  (PLANE, 4, 12), (ZS, 3, 16), (ZS, 4, 8), (MIXED, 3, 24), (Z3, 3, 3), (Z3, 4, 3),
                                  (WALL, 2, 35), (Floor.still(S3, (0,)), 2, 1000), (Floor.still(V4, (0,)), 3, 8)):
            for seed in (1, 2, 3):
                source = random.Random(seed)
                sums = {}
                for _ in range(3):
                    above = tuple(source.randrange(floor.group.size) for _ in range(step + 1))
                    ratios = [Fraction(source.randrange(rest or most), rest or most) for rest in floor.rests]
                    add_bound(sums, floor, above, ratios)
                test = ratios_of(sums)
                self.assertTrue(is_slow_test(floor, step, test))
                self.assertIs(is_test(floor, step, test), True)
                for members in list(test)[:4]:
                    wrong = {other: test[other] for other in test if other != members}
                    self.assertIs(is_test(floor, step, wrong), is_slow_test(floor, step, wrong))

    def test_values_of_tests(self):
        for floor in (ZS, MIXED, Z3, Floor.still(V4, (0, 4))):
            for step in (1, 2):
                for maker in class_makers(floor, step):
                    test = bar_for(floor, step, maker)
                    for seed in (1, 2, 3):
                        row = some_row(floor, step, 10 ** 40, seed)
                        self.assertEqual(value_of_test(floor, step, test, row), slow_value(floor, test, row))
                        changed = slow_change(floor, step - 1, some_row(floor, step - 1, 10 ** 30, seed))
                        self.assertEqual(value_of_test(floor, step, test, changed), (0, 1))
        self.assertEqual(value_of_test(ZS, 1, {}, {(1,): (1,)}), (0, 1))

    def test_one_class(self):
        for floor in (Z3, MIXED, Floor.still(V4, (0, 4))):
            for step in (1, 2):
                rows = [some_closed(floor, step, 9, seed) for seed in range(6)]
                for one, place in rows:
                    for other, further in rows:
                        self.assertIs(are_one_class(floor, step, one, other), place == further)
        great = Floor.still(C2, (0,))
        one, other = {(1, 1): (LONGEST,)}, {(1, 1): (-LONGEST,)}
        self.assertIs(are_one_class(great, 2, one, other), True)
        self.assertIs(are_one_class(great, 2, one, {}), False)


class ClassTest(Refusals, unittest.TestCase):
    def test_the_example(self):
        self.assertEqual([class_list(Floor.still(C2, (0,)), step) for step in (0, 1, 2, 3, 4)]
                         + [class_list(ZS, 1), class_list(Floor.still(V4, (2,)), 2),
                            class_list(Floor.still(S3, (0,)), 2)],
                         [(0,), (), (2,), (), (2,), (2,), (2, 2, 2), (2,)])

    def test_known_lists(self):
        for group, rests, lists in (
                (C3, (0,), ((), (3,), (), (3,))), (C4, (0,), ((), (4,), (), (4,))), (C4, (8,), ((4,),) * 4),
                (C4, (6,), ((2,),) * 4), (V4, (0,), ((), (2, 2), (2,), (2, 2, 2))),
                (V4, (2,), ((2,) * 2, (2,) * 3, (2,) * 4, (2,) * 5)), (C5, (0,), ((), (5,), ())),
                (C6, (0,), ((), (6,))), (S3, (0,), ((), (2,))), (S3, (6,), ((2,), (2,))), (Q8, (0,), ((),)),
                (Q8, (8,), ((2, 2),)), (D4, (2,), ((2, 2),)), (C1, (0, 5), ((), (), (), ())),
                (C2, (0, 2, 4, 0), ((2, 2), (2, 2, 2, 2))), (C6, (2, 3), ((6,), (6,)))):
            floor = Floor.still(group, rests)
            self.assertEqual(tuple(class_list(floor, step) for step in range(1, len(lists) + 1)), lists)
        self.assertEqual([class_list(PLANE, step) for step in (1, 2, 3)], [(3,), (), (3,)])
        turned = Floor.made(S3, (0, 0), {2: ((0, -1), (-1, 0)), 3: WALL.tables[3]})
        self.assertEqual([class_list(WALL, step) for step in (1, 2)], [(), ()])
        self.assertEqual([class_list(turned, step) for step in (1, 2)], [(3,), ()])
        self.assertEqual([class_list(regular(S3, 0), 1), class_list(regular(V4, 6), 2)], [(), ()])
        self.assertEqual([class_list(MIXED, step) for step in (0, 1, 2, 3, 4)], [(4,), (2,), (), (2,), ()])

    def test_lists_of_sums(self):
        for step in (1, 2, 3):
            both = sorted(class_list(MIXED, step) + class_list(TWIST, step) + class_list(ZS, step))
            self.assertEqual(sorted(class_list(floor_sum(floor_sum(MIXED, TWIST), ZS), step)), both)

    def test_lists_by_all_rows(self):
        for floor, steps in ((Z2, (1, 2, 3)), (Z3, (1,)), (TWIST, (1, 2)), (Floor.still(C2, (4,)), (1, 2)),
                             (Floor.made(C2, (8,), {1: ((3,),)}), (1, 2)), (Floor.made(C2, (8,), {1: ((-1,),)}), (1, 2)),
                             (regular(C2, 2), (1, 2)), (Floor.still(V4, (2,)), (1,)), (Floor.still(V4, (4,)), (1,)),
                             (Floor.made(S3, (3,), {1: ((-1,),), 2: ((-1,),)}), (1,)), (Floor.still(C4, (6,)), (1,)),
                             (Floor.made(C4, (5,), {1: ((2,),)}), (1,)), (Floor.made(V4, (4,), {1: ((-1,),), 2: ((1,),)}), (1,))):
            for step in steps:
                closed_rows = [row for row in all_rows(floor, step) if not slow_change(floor, step, row)]
                changes = []
                for row in all_rows(floor, step - 1):
                    changed = slow_change(floor, step - 1, row)
                    if changed not in changes:
                        changes.append(changed)
                orders = {}
                for row in closed_rows:
                    order = 1
                    several = row
                    while several not in changes:
                        several = row_sum(floor, step, several, row)
                        order += 1
                    orders[order] = orders.get(order, 0) + 1
                    if len(closed_rows) <= 300:
                        self.assertEqual(class_order(floor, step, row), order)
                numbers = class_list(floor, step)
                self.assertEqual({order: many * len(changes) for order, many in orders_in_list(numbers).items()}, orders)

    def test_step_0(self):
        for floor in FLOORS:
            self.assertEqual(class_list(floor, 0), fixed_list(floor))

    def test_lists_have_their_form(self):
        for floor in FLOORS:
            for step in listed_steps(floor, 700):
                numbers = class_list(floor, step)
                self.assertTrue(all(number > 1 for number in numbers))
                self.assertTrue(all(high % low == 0 for low, high in zip(numbers, numbers[1:])))
                if numbers:
                    self.assertEqual(floor.group.size % numbers[-1], 0)

    def test_makers(self):
        for floor in FLOORS + (GREAT,):
            for step in listed_steps(floor, 700):
                numbers, makers = class_list(floor, step), class_makers(floor, step)
                self.assertEqual(len(makers), len(numbers))
                self.assertTrue(are_class_makers(floor, step, makers))
                for at, (number, maker) in enumerate(zip(numbers, makers)):
                    self.assertTrue(is_row(floor, step, maker))
                    self.assertEqual(slow_change(floor, step, maker), {})
                    self.assertEqual(class_order(floor, step, maker), number)
                    self.assertEqual(class_place(floor, step, maker), tuple(int(k == at) for k in range(len(numbers))))
                    self.assertEqual(list(maker), sorted(maker))

    def test_other_makers(self):
        floor = Floor.still(V4, (2,))
        makers = class_makers(floor, 2)
        changed = slow_change(floor, 1, some_row(floor, 1, 5, 1))
        mixed = (row_sum(floor, 2, makers[0], makers[1]), row_sum(floor, 2, makers[1], makers[2]), makers[2])
        self.assertIs(are_class_makers(floor, 2, mixed), True)
        self.assertIs(are_class_makers(floor, 2, makers[::-1]), True)
        self.assertIs(are_class_makers(floor, 2, tuple(row_sum(floor, 2, row, changed) for row in makers)), True)
        self.assertIs(are_class_makers(floor, 2, (makers[0], makers[1], mixed[0])), False)
        for wrong in WRONG + ((), makers[:2], makers + ({},), list(makers), makers[:2] + ({},), makers[:2] + (None,),
                              makers[:2] + ({(0, 1): (1,)},), C2, makers[:2] + ({(1, 1): (True,)},), (makers,)):
            self.assertIs(are_class_makers(floor, 2, wrong), False)
        unlike = Floor.still(C4, (2, 4))
        low, high = class_makers(unlike, 1)
        self.assertIs(are_class_makers(unlike, 1, (low, high)), True)
        self.assertIs(are_class_makers(unlike, 1, (high, low)), False)
        self.assertIs(are_class_makers(unlike, 1, (row_times(unlike, 1, 2, high), high)), False)
        self.assertIs(are_class_makers(unlike, 1, (low, row_sum(unlike, 1, row_times(unlike, 1, 3, high), low))), True)
        several = Floor.still(C6, (2, 6))
        low, high = class_makers(several, 1)
        first, second = row_times(several, 1, 3, high), row_sum(several, 1, low, high)
        self.assertIs(are_class_makers(several, 1, (first, second)), True)
        self.assertIs(are_class_makers(several, 1, (first, high)), False)
        self.assertIs(are_class_makers(ZS, 2, ()), True)
        self.assertIs(are_class_makers(ZS, 2, ({},)), False)

    def test_homomorphisms(self):
        # over a floor that no member moves closed 1-rows go along with products, and only 0 is a change
        for floor in (Floor.still(V4, (4,)), Floor.still(S3, (6,)), Floor.still(C4, (6,))):
            many = 0
            for value in product(values_of(floor), repeat=floor.group.size - 1):
                led = ((0,),) + value
                along = all(led[floor.group.product(g, h)] == floor.added(led[g], led[h])
                            for g in floor.group for h in floor.group)
                row = {(member,): led[member] for member in floor.group if any(led[member])}
                if along or many < 20:
                    self.assertIs(is_closed(floor, 1, row), along)
                    if along and row:
                        self.assertIsNone(source_of(floor, 1, row))
                        many += 1
            self.assertEqual(many + 1, len(list(product(*[range(number) for number in class_list(floor, 1)]))))

    def test_multiples_of_the_size(self):
        for floor in (ZS, PLANE, WALL, SWAP, Floor.still(V4, (0,)), GREAT):
            for step in (1, 2):
                for maker in class_makers(floor, step):
                    several = row_times(floor, step, floor.group.size, maker)
                    self.assertIsNotNone(source_of(floor, step, several))
        eight = Floor.still(C2, (8,))
        self.assertTrue(is_closed(eight, 1, {(1,): (4,)}))
        self.assertIsNone(source_of(eight, 1, {(1,): (4,)}))


class RefusalTest(Refusals, unittest.TestCase):
    def calls(self):
        """Each function with a floor and a step, and how many arguments follow."""
        return ((is_closed, 1), (source_of, 1), (is_source, 2), (bar_for, 1), (is_test, 1), (value_of_test, 2),
                (are_one_class, 2), (class_makers, 0), (class_place, 1), (are_class_makers, 1), (class_order, 1))

    def test_floors_and_steps(self):
        for call, many in self.calls() + ((class_list, 0),):
            for wrong in NO_FLOORS:
                self.refused(InvalidFloor, call, wrong, 9, *[None] * many)
        for call, many in self.calls():
            for wrong in NO_STEPS:
                self.refused_number(call, wrong, ZS, wrong, *[None] * many)
        for wrong in NO_NUMBERS + (-1, 5):
            self.refused_number(class_list, wrong, ZS, wrong)

    def test_rows(self):
        for wrong in WRONG[:6] + WRONG[7:] + ({(1,): (0,)}, {(1,): (True,)}, {(1,): [1]}, {(1, 1): (1,)}, {1: (1,)},
                                              {(1,): (TOO_LONG,)}, C2, ((1,),)):
            for call in (source_of, bar_for, class_order, class_place):
                self.refused(InvalidRow, call, ZS, 1, wrong)
            self.refused(InvalidRow, is_source, ZS, 1, wrong, None)
            self.refused(InvalidRow, are_one_class, ZS, 1, wrong, None)
            self.refused(InvalidRow, are_one_class, ZS, 1, {}, wrong)
            self.refused(InvalidRow, value_of_test, ZS, 1, {}, wrong)

    def test_open_rows(self):
        still, row = Floor.still(C2, (0,)), {(1,): (1,)}
        for call in (source_of, bar_for, class_order, class_place):
            self.refused(Refused, call, still, 1, row, reason=("open",))
        self.refused(Refused, is_source, still, 1, row, None, reason=("open",))
        self.refused(Refused, are_one_class, still, 1, row, {}, reason=("open",))
        self.refused(Refused, are_one_class, still, 1, {}, row, reason=("open",))
        self.refused(InvalidRow, are_one_class, still, 1, row, None)
        self.assertEqual(value_of_test(still, 1, {(1,): ((1, 2),)}, row), (1, 2))

    def test_five_thousand(self):
        for step, great in ((2, Group.round(18)), (3, Group.round(9)), (4, C6)):
            floor, row = Floor.still(great, (0,)), {(1,) * step: (1,)}
            for call in (is_closed, source_of, bar_for, is_test, class_place, class_order):
                self.refused(TooMany, call, floor, step, row, limit=5000)
                self.refused(TooMany, call, floor, step, {}, limit=5000)
            self.refused(TooMany, is_closed, floor, step, None, limit=5000)
            self.refused(TooMany, is_test, floor, step, None, limit=5000)
            self.refused(TooMany, is_source, floor, step, row, None, limit=5000)
            self.refused(TooMany, are_one_class, floor, step, row, row, limit=5000)
            self.refused(TooMany, value_of_test, floor, step, {}, {}, limit=5000)
            self.refused(InvalidTest, value_of_test, floor, step, row, {})
            self.refused(InvalidRow, value_of_test, floor, step, {}, None)
            self.refused(InvalidRow, source_of, floor, step, None)
            self.refused(InvalidRow, are_one_class, floor, step, row, None)

    def test_three_hundred(self):
        for step, right, wrong in ((0, Floor.still(E32, (0,) * 9), Floor.still(E32, (0,) * 10)),
                                   (1, Floor.still(Group.round(18), (0,)), Floor.still(Group.round(19), (0,))),
                                   (1, Floor.still(C6, (2,) * 12), Floor.still(Group.round(7), (2,) * 9)),
                                   (2, Floor.still(Group.round(7), (0,)), Floor.still(Q8, (0,))),
                                   (2, Floor.still(C6, (2, 2)), Floor.still(C6, (2, 2, 2))),
                                   (3, Floor.still(C5, (5,)), Floor.still(C5, (5, 5))),
                                   (4, Floor.still(V4, (2,)), Floor.still(V4, (2, 2))),
                                   (4, Floor.still(C3, (3,) * 9), Floor.still(C3, (3,) * 10))):
            self.assertIsInstance(class_list(right, step), tuple)
            self.refused(TooMany, class_list, wrong, step, limit=300)
            if step:
                self.assertTrue(are_class_makers(right, step, class_makers(right, step)))
                self.refused(TooMany, class_makers, wrong, step, limit=300)
                self.refused(TooMany, are_class_makers, wrong, step, None, limit=300)
                self.refused(TooMany, class_place, wrong, step, {}, limit=300)
                # what is told behind comes later
                self.refused(TooMany, class_place, wrong, step, {(0,) * step: (1,) * wrong.places}, limit=300)
                self.refused(InvalidRow, class_place, wrong, step, None)

    def test_two_wrong_arguments(self):
        self.refused(InvalidNumber, class_place, ZS, 0, None, given=0)
        self.refused(InvalidFloor, is_test, None, 0, None)

    def test_nothing_is_changed(self):
        row = {(1,): (4,), (0,): (0,)}
        del row[(0,)]
        keep = dict(row)
        source_of(ZS, 1, row)
        bar_for(ZS, 1, row)
        class_place(ZS, 1, row)
        self.assertEqual(row, keep)
        turned = some_row(WALL, 1, 9, 1)
        closed_row = slow_change(WALL, 1, turned)
        backwards = {members: closed_row[members] for members in reversed(list(closed_row))}
        self.assertEqual(source_of(WALL, 2, closed_row), source_of(WALL, 2, backwards))
        self.assertEqual(row_difference(WALL, 2, closed_row, backwards), {})


if __name__ == "__main__":
    unittest.main()
