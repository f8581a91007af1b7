"""What comes again: points 15.1 to 15.8."""

import unittest
from itertools import product
from math import gcd, lcm

from examples import (A4, C1, C2, C3, C4, C5, C6, D4, E8, E16, E32, NO_GROUPS, NO_NUMBERS, PLANE, Q8, Refusals, S3, S4,
                      TOO_LONG, V4, WALL, WRONG, orders_in_list)
from groupsover.base.floors import Floor
from groupsover.base.groups import Group, centralizer_of, group_parts, normalizer_of, part_group, prime_part
from groupsover.errors import InvalidGroup, Refused
from groupsover.ladders.ladders import Ladder, bar_ladder, is_exact_to, ladder_list, product_ladder, round_ladder
from groupsover.ladders.rounds import maker_of, round_list
from groupsover.products.again import (again_paper, again_step, bar_members, is_again_paper, is_bar, list_again,
                                       made_commuting, prime_turns)
from groupsover.rows.closed import class_list, class_makers, class_order

F20 = Group(((1, 2, 3, 4, 0), (0, 2, 4, 1, 3)))
F21 = Group(((1, 2, 3, 4, 5, 6, 0), (0, 2, 4, 6, 1, 3, 5)))
Q16 = Group(((1, 2, 3, 4, 5, 6, 7, 0, 9, 10, 11, 12, 13, 14, 15, 8),
             (8, 15, 14, 13, 12, 11, 10, 9, 4, 3, 2, 1, 0, 7, 6, 5)))
D5 = Group(((1, 2, 3, 4, 0), (0, 4, 3, 2, 1)))
Q24 = Group.both(Q8, C3)
Q12 = Group(((1, 2, 3, 4, 5, 0, 7, 8, 9, 10, 11, 6), (6, 11, 10, 9, 8, 7, 3, 2, 1, 0, 5, 4)))
# the tables with the determinant 1 of two places of rests of 3, by what they make of the eight values other than 0
VALUES = [value for value in product(range(3), repeat=2) if any(value)]
BINARY = Group(tuple(tuple(VALUES.index(((a * x + b * y) % 3, (c * x + d * y) % 3)) for x, y in VALUES)
                     for (a, b), (c, d) in (((1, 1), (0, 1)), ((1, 0), (1, 1)))))
GROUPS = (BINARY, C1, C2, C3, C4, C5, C6, V4, S3, D4, Q8, E8, A4, S4, E16, E32, F20, F21, Q16, D5, Q24, Q12,
          Group.round(8), Group.round(12), Group.round(32), Group.both(C2, C4), Group.both(C3, C3), Group.both(S3, C2),
          Group.both(S3, C5), Group.both(C4, C4), Group.both(F20, C1), Group.both(D5, C3))
AGAIN = [group for group in GROUPS if again_paper(group) is not None]


def letters_of_eight(group):
    """Two members that can stand in an entry of the group itself."""
    return next((one, other) for one in group for other in group if is_again_paper(group, ((2, "eight", one, other),)))


def eight_ladder(group, height):
    """The ladder of a group of eight or sixteen members with widths 1, 2, 2, 1, 1, 2, 2, by its words."""
    x, y = letters_of_eight(group)
    half = group.order(x) // 2
    powers = [group.power(x, i) for i in range(half)]
    sum_x = {member: 1 for member in powers}
    xy = group.product(x, y)
    mean = {member: 1 for member in group}
    first = (({0: -1, x: 1},), ({0: -1, y: 1},))
    second = ((sum_x, {0: -1, y: -1}), ({0: 1, xy: 1}, {0: -1, x: 1}))
    third = (({0: -1, x: 1}, {0: 1, xy: -1}),)
    fourth = ((mean,),)
    return Ladder(group, (first, second, third, fourth, first, second)[:height])


def brute_bars(group):
    """All bars, by their words."""
    found = []
    for one, other in product(group, repeat=2):
        order = group.order(one)
        if order in (2, 3, 5, 7, 11, 13, 17, 19, 23, 29, 31) and group.order(other) == order:
            powers = [group.power(one, number) for number in range(order)]
            if group.product(one, other) == group.product(other, one) and other not in powers:
                found.append((one, other))
    return found


def primes(number):
    return [prime for prime in range(2, number + 1) if number % prime == 0 and all(prime % k for k in range(2, prime))]


def greatest(number, prime):
    power = 1
    while number % (power * prime) == 0:
        power *= prime
    return power


def brute_entries(group, prime):
    """All entries for a prime, by their words."""
    power = greatest(group.size, prime)
    found = [(prime, "round", member) for member in group if group.order(member) == power]
    if prime == 2:
        for a, b in product(group, repeat=2):
            order = group.order(a)
            if (power == 2 * order and order >= 4 and b not in [group.power(a, number) for number in range(order)]
                    and group.product(b, b) == group.power(a, order // 2)
                    and group.product(b, a) == group.product(group.inverse(a), b)):
                found.append((2, "eight", a, b))
    return found


def orders_in_quotient(group):
    """How many members of each order there are if all products are taken to be equal in both orders."""
    part = {0}
    swaps = {group.product(group.product(g, h), group.product(group.inverse(g), group.inverse(h)))
             for g in group for h in group}
    while True:
        further = part | {group.product(one, other) for one in part for other in swaps}
        if further == part:
            break
        part = further
    found = {}
    for member in group:
        order = next(k for k in range(1, 33) if group.power(member, k) in part)
        found[order] = found.get(order, 0) + 1
    return {order: many // len(part) for order, many in found.items()}


class AgainTest(Refusals, unittest.TestCase):
    def test_bars(self):
        for group in GROUPS:
            bars = brute_bars(group)
            found = bar_members(group)
            self.assertEqual(found is None, not bars)
            if bars:
                self.assertIn(found, bars)
            if group.size <= 12:
                for pair in product(group, repeat=2):
                    self.assertIs(is_bar(group, pair), pair in bars)

    def test_judged_bars(self):
        self.assertEqual([pair for pair in product(V4, repeat=2) if is_bar(V4, pair)],
                         [(1, 2), (1, 3), (2, 1), (2, 3), (3, 1), (3, 2)])
        for value in WRONG + ((), (1,), (1, 2, 3), [1, 2], (True, 2), (1, True), (1, 4), (-1, 2), (1, TOO_LONG), (1, None),
                              ("1", "2"), ((1,), (2,)), V4, (V4, V4), (0, 1), (1, 0), (1, 1)):
            self.assertIs(is_bar(V4, value), False)
        self.assertIs(is_bar(C1, (0, 0)), False)

    def test_papers(self):
        for group in GROUPS:
            paper = again_paper(group)
            # either a bar or a paper, never both
            self.assertNotEqual(bar_members(group) is None, paper is None)
            if paper is not None:
                self.assertEqual([entry[0] for entry in paper], primes(group.size))
                for entry in paper:
                    self.assertIn(entry, brute_entries(group, entry[0]))
                self.assertIs(is_again_paper(group, paper), True)
            else:
                self.assertTrue(any(not brute_entries(group, prime) for prime in primes(group.size)))
        self.assertEqual(again_paper(C1), ())
        self.assertEqual([entry[1] for entry in again_paper(Q16)], ["eight"])
        self.assertEqual([entry[1] for entry in again_paper(Q24)], ["eight", "round"])

    def test_judged_papers(self):
        for group in (C2, C3, C4, C6, S3, Q8, D4, V4, Group.round(8)):
            lots = [brute_entries(group, prime) for prime in primes(group.size)]
            right = set(product(*lots))
            for entries in right:
                self.assertIs(is_again_paper(group, entries), True)
            tried = [(p, "round", g) for p in (2, 3) for g in group]
            tried += [(2, "eight", a, b) for a in group for b in group]
            for entry in tried:
                self.assertIs(is_again_paper(group, (entry,)), (entry,) in right)
        one, other = again_paper(C6)
        for value in WRONG + ((), (one,), (other,), (other, one), (one, one, other), [one, other], (one, list(other)),
                              (one, other[:2]), (one, other + (0,)), ((True,) + one[1:], other), (one, (3, "round", True)),
                              (one, (3, "round", None)), (one, (3, "round", 6)), (one, (3, "round", -1)),
                              (one, (3, "eight", 2)), (one, (3, "eight", 2, 3)), (one, (3, None, 2)), (one, ("3", "round", 2)),
                              ((2, 2, 3), other), ((2, [], 3), other), ((2, ("round",), 3), other), (None, None), ((), ()),
                              (one, 3), C6, ((2, C6, 3), other), ((C6, "round", 3), other), ((2, "round", C6), other)):
            self.assertIs(is_again_paper(C6, value), False)
        for value in WRONG + (None, (0,), ((2, "round", 0),)):
            self.assertIs(is_again_paper(C1, value), False)
        self.assertIs(is_again_paper(C1, ()), True)
        x, y = letters_of_eight(Q8)
        for value in (((2, "eight", x),), ((2, "eight", x, y, 0),), ((2, "eight", x, True),), ((2, "eight", x, x),),
                      ((2, "eight", y, 8),), ((2, "eight", x, None),), ((2, "round", x),), ((2, "round", x, y),)):
            self.assertIs(is_again_paper(Q8, value), False)

    def test_turns(self):
        for group in GROUPS:
            for prime in primes(group.size):
                found = prime_turns(group, prime)
                part = prime_part(group, prime)
                # all prime parts have one number, and so have the ways that they are moved
                moved = {tuple(group.product(group.product(g, u), group.inverse(g)) for u in part) for g in group
                         if {group.product(group.product(g, u), group.inverse(g)) for u in part} == set(part)}
                self.assertEqual(found, len(moved))
                if group.size <= 24:
                    for further in group_parts(group):
                        if len(further) == len(part):
                            self.assertEqual(len(normalizer_of(group, further)) // len(centralizer_of(group, further)), found)
        self.assertEqual([prime_turns(S3, 2), prime_turns(S3, 3), prime_turns(F21, 7), prime_turns(F20, 5)], [1, 2, 3, 4])
        for wrong in NO_NUMBERS + (0, 1, -2, 4, 5, 7, 37, 6):
            self.refused_number(prime_turns, wrong, S3, wrong)
        self.refused_number(prime_turns, 2, C1, 2)
        self.refused_number(prime_turns, 3, C2, 3)

    def test_wrong_groups(self):
        for call, more in ((bar_members, ()), (is_bar, (None,)), (again_paper, ()), (is_again_paper, (None,)),
                           (prime_turns, (None,)), (again_step, ()), (list_again, (None,)), (made_commuting, ())):
            for wrong in NO_GROUPS:
                self.refused(InvalidGroup, call, wrong, *more)

    def test_refused(self):
        for group in GROUPS:
            if group in AGAIN:
                continue
            self.refused(Refused, again_step, group, reason=("bar",))
            self.refused(Refused, list_again, group, 2, reason=("bar",))
            self.refused(Refused, list_again, group, 10 ** 60 - 1, reason=("bar",))
            self.refused_number(list_again, 0, group, 0)
        for wrong in NO_NUMBERS + (0, -1, -10 ** 60 + 1):
            self.refused_number(list_again, wrong, C2, wrong)


class ListTest(Refusals, unittest.TestCase):
    def test_steps(self):
        known = {2: (C1, C2, C4, C3, C5, Group.round(32)), 4: (S3, Q8, Q16, D5, Q24, Q12), 6: (F21,), 8: (F20,)}
        for step, groups in known.items():
            for group in groups:
                self.assertEqual(again_step(group), step)
        # steps that are the least common multiple of unlike ones
        self.assertEqual(again_step(Group.both(S3, C5)), 4)
        for group in AGAIN:
            step = again_step(group)
            lists = {number: list_again(group, number) for number in range(1, 4 * step + 1)}
            for number in range(1, 3 * step + 1):
                self.assertEqual(lists[number], lists[number + step])
            # in the step there is a class of the order |G|, and this is so in no lesser step from 2 on
            self.assertEqual(max(lists[step], default=1), group.size)
            for lesser in range(2, step):
                self.assertNotEqual(max(lists[lesser], default=1), group.size)
            for number in (10 ** 59 + 7, 2 * 10 ** 59, step * 10 ** 50, step * 10 ** 50 + 2):
                self.assertEqual(list_again(group, number), lists[number % step or step])

    def test_lists_of_closed_rows(self):
        many = 0
        for group in AGAIN:
            still = Floor.still(group, (0,))
            for step in (1, 2, 3, 4):
                if (group.size - 1) ** (step + 1) <= 300:
                    self.assertEqual(list_again(group, step), class_list(still, step))
                    many += 1
        self.assertGreater(many, 15)

    def test_lists_of_rounds_and_ladders(self):
        for group in AGAIN:
            still = Floor.still(group, (0,))
            if maker_of(group) is not None:
                for number in range(1, 9):
                    self.assertEqual(list_again(group, number), round_list(still, number))
            elif 1 < group.size <= 6:
                ladder = bar_ladder(group, 2)
                self.assertEqual(list_again(group, 1), ladder_list(ladder, still, 1))
        for group in (Q8, Q16):
            ladder = eight_ladder(group, 6)
            self.assertTrue(is_exact_to(ladder, 6))
            still = Floor.still(group, (0,))
            for number in range(1, 6):
                self.assertEqual(list_again(group, number), ladder_list(ladder, still, number))
        # rounds side by side, whose product is a round again
        ladder = product_ladder(round_ladder(C2, 1, 6), round_ladder(C3, 1, 6))
        group = Group.both(C2, C3)
        for number in range(1, 6):
            self.assertEqual(list_again(group, number), ladder_list(ladder, Floor.still(group, (0,)), number))
        ladder = product_ladder(eight_ladder(Q8, 6), round_ladder(C3, 1, 6))
        for number in range(1, 6):
            self.assertEqual(list_again(Q24, number), ladder_list(ladder, Floor.still(Q24, (0,)), number))

    def test_all_floors_come_again(self):
        floors = (PLANE, Floor.still(C3, (0, 9)), Floor.made(C2, (0,), {1: ((-1,),)}), Floor.still(C2, (2, 4)))
        for floor in floors:
            for step in (1, 2):
                self.assertEqual(class_list(floor, step), class_list(floor, step + again_step(floor.group)))
        ladder = eight_ladder(Q8, 6)
        for floor in (Floor.still(Q8, (2,)), Floor.still(Q8, (0, 4)), Floor.made(Q8, (0,), {1: ((-1,),), 4: ((1,),)}),
                      Floor.made(Q8, (8, 0), {1: ((3, 0), (0, -1)), 4: ((1, 0), (0, -1))})):
            self.assertEqual(ladder_list(ladder, floor, 1), ladder_list(ladder, floor, 5))
        # over three members made by two, lists of floors on which they work come again by four
        self.assertEqual(again_step(S3), 4)
        self.assertNotEqual(class_list(WALL, 1), (6,))

    def test_the_class_of_the_step(self):
        for group in (C2, C3, C4):
            step = again_step(group)
            still = Floor.still(group, (0,))
            orders = [class_order(still, step, row) for row in class_makers(still, step)]
            self.assertIn(group.size, orders)

    def test_made_commuting(self):
        for group in GROUPS:
            found = made_commuting(group)
            self.assertTrue(all(size > 1 for size in found))
            self.assertTrue(all(high % low == 0 for low, high in zip(found, found[1:])))
            self.assertEqual(orders_in_list(found), orders_in_quotient(group))
            if (group.size - 1) ** 3 <= 300:
                self.assertEqual(class_list(Floor.still(group, (0,)), 2), found)
        self.assertEqual([made_commuting(group) for group in (C1, S3, Q8, A4, Group.both(C4, C6), E32)],
                         [(), (2,), (2, 2), (3,), (2, 12), (2,) * 5])

    def test_with_a_bar_lists_grow(self):
        # rounds of two, side by side: a list of each step is longer than that of two steps below
        ladder = product_ladder(round_ladder(C2, 1, 6), round_ladder(C2, 1, 6))
        lengths = [len(ladder_list(ladder, Floor.still(V4, (0,)), step)) for step in range(1, 6)]
        self.assertEqual(lengths, [0, 2, 1, 3, 2])

    def test_not_true(self):
        self.assertEqual([again_step(F21), again_step(F20)], [6, 8])
        self.assertEqual((F21.size, F20.size), (21, 20))
        # all lists are empty, and there is a bar
        floor = Floor.still(V4, (3,))
        self.assertEqual([class_list(floor, step) for step in (1, 2, 3)], [(), (), ()])
        self.assertIsNotNone(bar_members(V4))
        # no bar, and no part of twelve members
        self.assertEqual(BINARY.size, 24)
        self.assertIsNone(bar_members(BINARY))
        self.assertNotIn(12, {len(part) for part in group_parts(BINARY)})

    def test_lists_seen_from_parts(self):
        # what comes again for the group comes again for its parts
        for group in (S3, F21, F20, Q24):
            for part in group_parts(group):
                self.assertEqual(again_step(group) % again_step(part_group(group, part)), 0)
        for group in AGAIN:
            wanted = 2
            for prime in primes(group.size):
                if prime > 2:
                    wanted = lcm(wanted, 2 * prime_turns(group, prime))
                elif any(entry[1] == "eight" for entry in again_paper(group)):
                    wanted = lcm(wanted, 4)
            self.assertEqual(again_step(group), wanted)
            self.assertEqual(gcd(again_step(group), 2), 2)


if __name__ == "__main__":
    unittest.main()
