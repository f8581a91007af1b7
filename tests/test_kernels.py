"""Kernels that do not commute: points 17.1 to 17.8."""

import random
import unittest
from itertools import permutations, product

from examples import (A4, C1, C2, C3, C4, C5, C6, D4, E8, E16, E32, NO_GROUPS, NO_NUMBERS, Q8, Refusals, S3, TOO_LONG, V4,
                      WRONG, some_row)
from groupsover.base.floors import Floor
from groupsover.base.groups import Group
from groupsover.errors import InvalidGroup, InvalidNumber, InvalidOperation, InvalidRow, Refused, TooMany
from groupsover.kernels import kernels
from groupsover.kernels.kernels import (Laid, are_factors, bar_row, factors_of, inner_turn, is_middle_base, is_way,
                                        is_way_test, laid_factors, layings_number, middle_base, middle_floor, turns_of,
                                        way_test)
from groupsover.laid.alike import self_maps
from groupsover.laid.layings import Layering
from groupsover.rows.closed import (are_one_class, class_list, class_makers, is_closed, is_test, source_of,
                                    test_value as value_of_test)
from groupsover.rows.rows import is_clean, row_difference, row_sum


def two_makers(many, turn, square):
    """The group of powers of a, at most two turns of b behind them: b moves a to a ** turn, and b b is a ** square."""
    pairs = [(i, j) for i in range(many) for j in range(2)]

    def multiplied(one, other):
        i = one[0] + (turn if one[1] else 1) * other[0] + (square if one[1] and other[1] else 0)
        return i % many, (one[1] + other[1]) % 2

    moves = [tuple(pairs.index(multiplied(maker, pair)) for pair in pairs) for maker in ((1, 0), (0, 1))]
    return Group(tuple(moves))


D8, Q16, SD16, D6, D5 = (two_makers(8, 7, 0), two_makers(8, 7, 4), two_makers(8, 3, 0), two_makers(6, 5, 0),
                         two_makers(5, 4, 0))
Q12 = two_makers(6, 5, 3)
SMALL = (C1, C2, C3, C4, C5, C6, V4, S3, D4, Q8)
KERNELS = SMALL + (E8, A4, D5, D6, Q12, D8, Q16, SD16, Group.both(C4, V4), Group.both(Q8, C2), Group.both(C4, C4))


def still_turn(kernel):
    return tuple(range(kernel.size))


def inner(kernel, member):
    """The inner turn by a member, by its words."""
    return tuple(kernel.product(kernel.product(member, n), kernel.inverse(member)) for n in kernel)


def behind(one, other):
    """The turn that does the other one, and then the first one."""
    return tuple(one[image] for image in other)


def slow_is_way(kernel, group, way):
    """Whether turns, one for each member, are a way, by its words."""
    inners = {inner(kernel, member) for member in kernel}
    return way[0] == still_turn(kernel) and all(
        behind(way[g], way[h]) in {behind(turn, way[group.product(g, h)]) for turn in inners} for g in group for h in group)


def some_ways(kernel, group, most, seed=1):
    """Some ways, all of them where there are few to try."""
    turns = turns_of(kernel)
    found = []
    if len(turns) ** (group.size - 1) <= 700:
        tried = product(turns, repeat=group.size - 1)
    else:
        source = random.Random(seed)
        tried = (tuple(source.choice(turns) for _ in range(group.size - 1)) for _ in range(700))
    for choice in tried:
        way = (still_turn(kernel),) + tuple(choice)
        if slow_is_way(kernel, group, way):
            found.append(way)
            if len(found) == most:
                break
    return found


def other_factors(kernel, group, way, seed):
    """Factors of a way that are chosen at random."""
    source = random.Random(seed)
    middle = [n for n in kernel if inner(kernel, n) == still_turn(kernel)]
    return {(g, h): kernel.product(source.choice(middle), k) if g and h else 0
            for (g, h), k in factors_of(kernel, group, way).items()}


def slow_bars(kernel, group, way, factors):
    """The members that hang on brackets, by their words."""
    found = {}
    for g, h, k in product(group, repeat=3):
        member = kernel.product(way[g][factors[(h, k)]], factors[(g, group.product(h, k))])
        member = kernel.product(member, kernel.inverse(factors[(group.product(g, h), k)]))
        member = kernel.product(member, kernel.inverse(factors[(g, h)]))
        if member:
            found[(g, h, k)] = member
    return found


def value_of(kernel, base, member):
    """The exponents of a member of the middle, by trying all of them."""
    for exponents in product(*[range(kernel.order(maker)) for maker in base]):
        if member_of(kernel, base, exponents) == member:
            return exponents
    raise AssertionError("no exponents")


def member_of(kernel, base, exponents):
    total = 0
    for maker, exponent in zip(base, exponents):
        total = kernel.product(total, kernel.power(maker, exponent))
    return total


def multiplied(kernel, group, way, factors, one, other):
    """The product of two pairs, by its words."""
    (n, g), (m, h) = one, other
    return (kernel.product(kernel.product(n, way[g][m]), factors[(g, h)]), group.product(g, h))


def is_grouping(kernel, group, way, factors):
    """Whether the products of pairs bracket freely."""
    pairs = list(product(kernel, group))
    table = {(one, other): multiplied(kernel, group, way, factors, one, other) for one in pairs for other in pairs}
    makers = [(n, 0) for n in kernel] + [(0, g) for g in group]
    return all(table[(table[(a, b)], c)] == table[(a, table[(b, c)])] for a in makers for b in makers for c in makers)


CASES = []
for kernel, group, most in ((C1, C2, 1), (C2, C2, 1), (C3, C2, 2), (C4, C2, 2), (V4, C2, 4), (V4, C3, 3), (S3, C2, 6), (S3, C3, 4),
                            (S3, V4, 4), (D4, C2, 8), (D4, C3, 2), (D4, V4, 5), (D4, C4, 4), (Q8, C2, 6), (Q8, C3, 4),
                            (Q8, V4, 4), (C6, C4, 2), (C4, V4, 3), (V4, V4, 3), (E8, C2, 3), (A4, C2, 4), (D8, C2, 32),
                            (Q16, C2, 32), (SD16, C2, 4), (D8, V4, 12), (Q12, C2, 4), (Group.both(C4, C4), C2, 3),
                            (S3, C1, 1), (Q8, C1, 1), (Group.both(Q8, C2), C2, 4)):
    CASES += [(kernel, group, way) for way in some_ways(kernel, group, most)]
STILL_D8 = (still_turn(D8), still_turn(D8))


class TurnTest(Refusals, unittest.TestCase):
    def test_constants(self):
        self.assertEqual((kernels.MAX_KERNEL, kernels.MAX_OVER, kernels.MAX_TURNS), (16, 8, 200))

    def test_turns(self):
        for kernel in KERNELS:
            found = turns_of(kernel)
            self.assertEqual(list(found), sorted(set(found)))
            if kernel.size <= 6:
                wanted = [turn for turn in permutations(range(kernel.size))
                          if all(turn[kernel.product(g, h)] == kernel.product(turn[g], turn[h]) for g in kernel for h in kernel)]
                self.assertEqual(list(found), wanted)
            if kernel.size <= 12:
                self.assertEqual(found, self_maps(kernel))
            for member in kernel:
                turn = inner_turn(kernel, member)
                self.assertEqual(turn, inner(kernel, member))
                self.assertIn(turn, found)
        self.assertEqual([len(turns_of(kernel)) for kernel in (S3, D4, Q8, E8, D8, Group.both(C4, V4), Group.both(Q8, C2))],
                         [6, 8, 24, 168, 32, 192, 192])

    def test_many_turns(self):
        self.refused(TooMany, turns_of, E16, limit=200)
        self.refused(TooMany, turns_of, Group.round(17), limit=16)
        self.refused(TooMany, turns_of, E32, limit=16)
        self.assertEqual(len(turns_of(Group.round(16))), 8)
        self.refused(TooMany, inner_turn, Group.round(17), 16, limit=16)
        self.refused_number(inner_turn, 17, Group.round(17), 17)
        self.assertEqual(inner_turn(E16, 5), still_turn(E16))

    def test_wrong_arguments(self):
        for wrong in NO_GROUPS:
            self.refused(InvalidGroup, turns_of, wrong)
            self.refused(InvalidGroup, middle_base, wrong)
            self.refused(InvalidGroup, is_middle_base, wrong, None)
        self.refuse_in_order(inner_turn, (S3, 1), [(0, NO_GROUPS, InvalidGroup), (1, NO_NUMBERS + (-1, 6), InvalidNumber)])


class WayTest(Refusals, unittest.TestCase):
    def test_ways(self):
        for kernel, group in ((C3, C2), (V4, C2), (S3, C2), (C4, C3), (D4, C2), (Q8, C2), (C4, V4), (S3, C3)):
            for choice in product(turns_of(kernel), repeat=group.size - 1):
                way = (still_turn(kernel),) + choice
                self.assertIs(is_way(kernel, group, way), slow_is_way(kernel, group, way))
            for turn in turns_of(kernel):
                self.assertIs(is_way(kernel, group, (turn,) * group.size), turn == still_turn(kernel))

    def test_judged_ways(self):
        still = still_turn(S3)
        for value in WRONG + ((), (still,), (still,) * 3, [still, still], (still, list(still)), (still, still[:5]),
                              (still, still + (6,)), (still, (0, 1, 2, 3, 4, 4)), (still, (1, 0, 2, 3, 4, 5)),
                              (still, (0, 2, 1, 3, 4, 5)), (still, (False, True, 2, 3, 4, 5)), (still, (0, 1, 2, 3, 4, 6)),
                              (still, (0, 1, 2, 3, 4, -1)), (still, None), (still, (None,) * 6), (still, (TOO_LONG,) * 6),
                              (still, ("0",) * 6), S3, (S3, S3), (still, ((0,),) * 6), {0: still, 1: still}):
            self.assertIs(is_way(S3, C2, value), False)
        self.assertIs(is_way(S3, C2, (still, still)), True)
        # the turns of a way over three members are not those over two
        turn = next(turn for turn in turns_of(V4) if behind(turn, behind(turn, turn)) == still_turn(V4) != turn)
        self.assertIs(is_way(V4, C3, (still_turn(V4), turn, behind(turn, turn))), True)
        self.assertIs(is_way(V4, C3, (still_turn(V4), turn, turn)), False)
        self.assertIs(is_way(V4, C2, (still_turn(V4), turn)), False)

    def test_factors(self):
        for kernel, group, way in CASES:
            found = factors_of(kernel, group, way)
            self.assertEqual(list(found), list(product(group, repeat=2)))
            for (g, h), k in found.items():
                self.assertEqual(behind(way[g], way[h]), behind(inner(kernel, k), way[group.product(g, h)]))
                if 0 in (g, h):
                    self.assertEqual(k, 0)
            self.assertIs(are_factors(kernel, group, way, found), True)
            self.assertIs(are_factors(kernel, group, way, other_factors(kernel, group, way, 3)), True)
            # one other member at one pair
            if group.size > 1:
                for member in kernel:
                    for pair in ((1, 1), (0, 1), (1, 0), (0, 0)):
                        wanted = (pair == (1, 1) and inner(kernel, member) == inner(kernel, found[pair])) or member == found[pair]
                        self.assertIs(are_factors(kernel, group, way, dict(found) | {pair: member}), wanted)

    def test_judged_factors(self):
        way = (still_turn(D4),) * 2
        right = {(0, 0): 0, (0, 1): 0, (1, 0): 0, (1, 1): 0}
        self.assertIs(are_factors(D4, C2, way, right), True)
        wrong = WRONG + ({}, {(0, 0): 0}, right | {(1, 1): True}, right | {(1, 1): 8}, right | {(1, 1): -1}, right | {(2, 0): 0},
                         right | {(1, 1): None}, right | {(1, 1): TOO_LONG}, right | {(1, 1): "0"}, right | {(1, 1): (0,)},
                         {(0, 0): 0, (0, 1): 0, (1, 0): 0, (1, True): 0}, {(0, 0): 0, (0, 1): 0, (1, 0): 0, (1, 1, 1): 0},
                         {(0, 0): 0, (0, 1): 0, (1, 0): 0, 3: 0}, {(0, 0): 0, (0, 1): 0, (1, 0): 0, None: 0}, list(right), C2,
                         right | {(1, 1): D4}, right | {(0, 1): 0, (0, 2): 0}, {(0, 0): 0, (0, 1): 0, (1, 0): 0, "11": 0})
        for value in wrong:
            self.assertIs(are_factors(D4, C2, way, value), False)
            self.refused(InvalidRow, bar_row, D4, C2, way, value, None)
            self.refused(InvalidRow, Laid, D4, C2, way, value)

    def test_wrong_arguments(self):
        way, no_ways = (still_turn(D4),) * 2, WRONG + ((), still_turn(D4), (still_turn(D4),), (still_turn(S3),) * 2)
        factors, base = factors_of(D4, C2, way), middle_base(D4)
        no_bases = WRONG + ((0,), (1,), base * 2, list(base), (True,), base + (0,), (None,), (8,), D4, ())
        no_factors = ({}, None, (), 1, [factors])
        for call, more in ((is_way, ()), (factors_of, ()), (are_factors, (None,)), (laid_factors, ()), (way_test, ()),
                           (is_way_test, (None,)), (layings_number, ()), (middle_floor, (base,)), (bar_row, (factors, base)),
                           (Laid, (factors,))):
            wrongs = [(0, NO_GROUPS, InvalidGroup), (1, NO_GROUPS, InvalidGroup)]
            if call is not is_way:
                wrongs.append((2, no_ways, InvalidOperation))
            if call in (bar_row, Laid):
                wrongs.append((3, no_factors, InvalidRow))
            if call in (middle_floor, bar_row):
                wrongs.append((3 if call is middle_floor else 4, no_bases, InvalidOperation))
            self.refuse_in_order(call, (D4, C2, way) + more, wrongs)
        for value in no_bases:
            self.assertIs(is_middle_base(D4, value), False)

    def test_many_members(self):
        wide, narrow, nine, eight = Group.round(17), Group.round(16), Group.round(9), Group.round(8)
        for kernel, group, limit in ((wide, C2, 16), (wide, nine, 16), (narrow, nine, 8), (C2, nine, 8), (E32, C2, 16)):
            way = (still_turn(kernel),) * group.size
            factors = {pair: 0 for pair in product(group, repeat=2)}
            base = (1,) if kernel.size < 32 else (1, 2, 4, 8)
            self.refused(TooMany, is_way, kernel, group, None, limit=limit)
            for call, more in ((factors_of, ()), (are_factors, (None,)), (laid_factors, ()), (way_test, ()),
                               (is_way_test, (None,)), (layings_number, ()), (Laid, (factors,))):
                self.refused(TooMany, call, kernel, group, way, *more, limit=limit)
                self.refused(InvalidOperation, call, kernel, group, way[1:], *more)
            self.refused(InvalidRow, Laid, kernel, group, way, {})
            if kernel.size < 32:
                self.refused(TooMany, middle_floor, kernel, group, way, base, limit=limit)
                self.refused(TooMany, bar_row, kernel, group, way, factors, base, limit=limit)
            self.refused(InvalidOperation, middle_floor, kernel, group, way, (0,))
            self.refused(InvalidRow, bar_row, kernel, group, way, {}, base)
        # a base of five members is none, also where there is none of four
        self.refused(InvalidOperation, middle_floor, E32, C2, (still_turn(E32),) * 2, (1, 2, 4, 8, 16))
        self.refused(TooMany, middle_base, wide, limit=16)
        self.refused(TooMany, is_middle_base, wide, None, limit=16)
        way = (still_turn(narrow),) * 8
        self.assertIs(is_way(narrow, eight, way), True)
        self.assertEqual(laid_factors(narrow, eight, way), {pair: 0 for pair in product(eight, repeat=2)})
        self.refused(TooMany, layings_number, narrow, eight, way, limit=300)
        seven = Group.round(7)
        self.assertEqual(layings_number(narrow, seven, (still_turn(narrow),) * 7), 1)
        self.refused(TooMany, layings_number, V4, seven, (still_turn(V4),) * 7, limit=300)
        # without a base nothing is too many
        self.assertEqual(layings_number(S3, eight, (still_turn(S3),) * 8), 1)
        self.refused(Refused, middle_floor, S3, C2, (still_turn(S3),) * 2, (), reason=("middle",))
        self.refused(TooMany, middle_floor, S3, nine, (still_turn(S3),) * 9, (), limit=8)
        self.refused(Refused, bar_row, S3, C2, (still_turn(S3),) * 2, factors_of(S3, C2, (still_turn(S3),) * 2), (),
                     reason=("middle",))


class MiddleTest(Refusals, unittest.TestCase):
    def test_bases(self):
        for kernel in KERNELS:
            middle = [n for n in kernel if all(kernel.product(n, m) == kernel.product(m, n) for m in kernel)]
            base = middle_base(kernel)
            self.assertEqual(sorted(member_of(kernel, base, exponents)
                                    for exponents in product(*[range(kernel.order(maker)) for maker in base])), middle)
            self.assertIs(is_middle_base(kernel, base), True)
            self.assertNotIn(0, base)
            most = 2 if kernel.size > 6 else 3
            for value in [()] + [value for many in range(1, most + 1) for value in product(kernel, repeat=many)]:
                wanted = (all(maker in middle and maker for maker in value) and sorted(
                    member_of(kernel, value, exponents)
                    for exponents in product(*[range(kernel.order(maker)) for maker in value])) == middle)
                self.assertIs(is_middle_base(kernel, value), wanted)
        self.assertEqual([middle_base(kernel) for kernel in (C1, S3, A4, D5)], [()] * 4)
        self.assertEqual([len(middle_base(kernel)) for kernel in (C6, V4, E8, E16, Group.both(C2, C6), D8)], [1, 2, 3, 4, 2, 1])
        self.assertIs(is_middle_base(C6, (2, 3)), True)
        self.assertIs(is_middle_base(E16, (1, 2, 4, 8)), True)
        self.assertIs(is_middle_base(E16, (1, 2, 4, 8, 15)), False)

    def test_floors(self):
        for kernel, group, way in CASES:
            base = middle_base(kernel)
            for tried in (base, base[::-1]):
                if not tried:
                    self.refused(Refused, middle_floor, kernel, group, way, tried, reason=("middle",))
                    continue
                floor = middle_floor(kernel, group, way, tried)
                self.assertEqual((floor.group, floor.rests), (group, tuple(kernel.order(maker) for maker in tried)))
                for g in group:
                    for value in product(*[range(rest) for rest in floor.rests]):
                        self.assertEqual(floor.moved(g, value), value_of(kernel, tried, way[g][member_of(kernel, tried, value)]))
                # it is a floor as any other
                self.assertEqual(Floor(group, floor.rests, floor.tables), floor)

    def test_bar_rows(self):
        for kernel, group, way in CASES:
            base = middle_base(kernel)
            if not base:
                continue
            floor, rows = middle_floor(kernel, group, way, base), []
            for seed in range(3):
                factors = other_factors(kernel, group, way, seed) if seed else factors_of(kernel, group, way)
                row = bar_row(kernel, group, way, factors, base)
                wanted = {members: value_of(kernel, base, member)
                          for members, member in slow_bars(kernel, group, way, factors).items()}
                self.assertEqual(row, wanted)
                self.assertEqual(list(row), sorted(row))
                self.assertTrue(is_closed(floor, 3, row) and is_clean(floor, 3, row))
                rows.append(row)
            self.assertTrue(are_one_class(floor, 3, rows[0], rows[1]) and are_one_class(floor, 3, rows[0], rows[2]))
            # a row of its class that is 0 at tuples with 0 comes of other factors
            lower = {members: value for members, value in some_row(floor, 2, 99, 5).items() if 0 not in members}
            changed = row_sum(floor, 3, rows[0], change_of(floor, lower))
            factors = {pair: kernel.product(member_of(kernel, base, lower[pair]), k) if pair in lower else k
                       for pair, k in factors_of(kernel, group, way).items()}
            self.assertEqual(bar_row(kernel, group, way, factors, base), changed)


def change_of(floor, row):
    from groupsover.rows.rows import change
    return change(floor, 2, row)


class LaidTest(Refusals, unittest.TestCase):
    def test_laid_or_not(self):
        told = {True: 0, False: 0}
        for kernel, group, way in CASES:
            factors, paper = laid_factors(kernel, group, way), way_test(kernel, group, way)
            self.assertNotEqual(factors is None, paper is None)
            told[factors is None] += 1
            base = middle_base(kernel)
            known = other_factors(kernel, group, way, 8)
            if factors is None:
                self.assertIs(is_way_test(kernel, group, way, paper), True)
                self.assertIsNone(source_of(middle_floor(kernel, group, way, base), 3,
                                            bar_row(kernel, group, way, known, base)))
                self.assertEqual(layings_number(kernel, group, way), 0)
                row = bar_row(kernel, group, way, paper[0], paper[1])
                floor = middle_floor(kernel, group, way, paper[1])
                self.assertTrue(is_test(floor, 3, paper[2]))
                self.assertNotEqual(value_of_test(floor, 3, paper[2], row), (0, 1))
            else:
                self.assertIs(are_factors(kernel, group, way, factors), True)
                self.assertEqual(list(factors), sorted(factors))
                self.assertEqual(slow_bars(kernel, group, way, factors), {})
                self.assertTrue(is_grouping(kernel, group, way, factors))
                if base:
                    self.assertIsNotNone(source_of(middle_floor(kernel, group, way, base), 3,
                                                   bar_row(kernel, group, way, known, base)))
                many = 1
                if base:
                    for size in class_list(middle_floor(kernel, group, way, base), 2):
                        many *= size
                self.assertEqual(layings_number(kernel, group, way), many)
        self.assertGreater(min(told.values()), 15)

    def test_laid_groups(self):
        for kernel, group, way in CASES:
            for factors in (laid_factors(kernel, group, way), other_factors(kernel, group, way, 4)):
                if factors is None:
                    continue
                if slow_bars(kernel, group, way, factors):
                    self.refused(Refused, Laid, kernel, group, way, factors, reason=("bar",))
                    continue
                laid = Laid(kernel, group, way, factors)
                self.assertEqual((laid.kernel_below, laid.group_above, laid.told_way, laid.laid_size),
                                 (kernel, group, way, kernel.size * group.size))
                source = random.Random(kernel.size)
                pairs = list(product(kernel, group))
                for _ in range(40):
                    one, other = source.choice(pairs), source.choice(pairs)
                    both = laid.multiplied(one, other)
                    self.assertEqual(both, multiplied(kernel, group, way, factors, one, other))
                    back = laid.reversed_pair(one)
                    self.assertEqual((laid.multiplied(one, back), laid.multiplied(back, one)), ((0, 0), (0, 0)))
                    power, many = one, 1
                    while power != (0, 0):
                        power, many = laid.multiplied(one, power), many + 1
                    self.assertEqual(laid.repeats(one), many)
                    # the member g leads to its turn of the kernel
                    n, g = source.choice(pairs)
                    moved = laid.multiplied(laid.multiplied((0, g), (n, 0)), laid.reversed_pair((0, g)))
                    self.assertEqual(moved, (way[g][n], 0))

    def test_wrong_pairs(self):
        laid = Laid(S3, C2, (still_turn(S3),) * 2, {pair: 0 for pair in product(C2, repeat=2)})
        wrong = WRONG + ((), (1,), (1, 1, 1), [1, 1], (6, 0), (0, 2), (-1, 0), (0, -1), (True, 0), (0, True), (None, 0),
                         (TOO_LONG, 0), ((0,), 0), S3, (S3, C2), laid)
        for value in wrong:
            self.refused(InvalidRow, laid.multiplied, value, None)
            self.refused(InvalidRow, laid.multiplied, value, (1, 1))
            self.refused(InvalidRow, laid.multiplied, (1, 1), value)
            self.refused(InvalidRow, laid.reversed_pair, value)
            self.refused(InvalidRow, laid.repeats, value)
        self.assertEqual((laid.laid_size, laid.repeats((0, 0)), laid.multiplied((3, 1), (3, 1))), (12, 1, (4, 0)))

    def test_what_is_passed_stays(self):
        factors = {pair: 0 for pair in product(C2, repeat=2)}
        laid = Laid(C4, C2, (still_turn(C4),) * 2, factors)
        factors[(1, 1)] = 1
        self.assertEqual(laid.multiplied((0, 1), (0, 1)), (0, 0))
        factors = factors_of(C4, C2, (still_turn(C4),) * 2)
        factors[(1, 1)] = 3
        self.assertEqual(factors_of(C4, C2, (still_turn(C4),) * 2)[(1, 1)], 0)

    def test_judged_tests(self):
        kernel, group, way = next((kernel, group, way) for kernel, group, way in CASES
                                  if group == C2 and laid_factors(kernel, group, way) is None)
        factors, base, test = way_test(kernel, group, way)
        right = (factors, base, test)
        self.assertIs(is_way_test(kernel, group, way, right), True)
        for seed in range(5):
            self.assertIs(is_way_test(kernel, group, way, (other_factors(kernel, group, way, seed), base, test)), True)
        for value in WRONG + ((), right[:2], right + (None,), list(right), (test, base, factors), (factors, base, {}),
                              (factors, base, None), (factors, (), test), (factors, (0,), test), (factors, list(base), test),
                              ({}, base, test), (None, base, test), (factors, None, test), (factors, base, [test]),
                              (factors | {(1, 1): True}, base, test), (factors, base, {(1, 1, 1): ((1, 3),)}),
                              (factors, base, {(1, 1): ((1, 2),)}), (factors, base, {(1, 1, 1): ((0, 1),)}), kernel):
            self.assertIs(is_way_test(kernel, group, way, value), False)
        # there is no test for a way under which the kernel can be laid
        for kernel, group, way in ((D4, C2, (still_turn(D4),) * 2), (S3, C2, (still_turn(S3),) * 2)):
            factors, base = factors_of(kernel, group, way), middle_base(kernel)
            for value in ((factors, base, {}), (factors, base, {(1, 1, 1): ((1, 2),)}), (factors, (), {})):
                self.assertIs(is_way_test(kernel, group, way, value), False)

    def test_how_many_layings(self):
        # counted by all factors, and by the maps that leave each (n, 0) and each second member
        for kernel, group, way in CASES:
            middle = [n for n in kernel if inner(kernel, n) == still_turn(kernel)]
            spots = [(g, h) for g in group for h in group if g and h]
            if len(middle) ** len(spots) > 600 or kernel.size * group.size > 20:
                continue
            known, first = [], factors_of(kernel, group, way)
            for choice in product(middle, repeat=len(spots)):
                factors = dict(first)
                for spot, z in zip(spots, choice):
                    factors[spot] = kernel.product(z, first[spot])
                if not slow_bars(kernel, group, way, factors):
                    known.append(factors)
            lots = []
            for factors in known:
                if not any(factors in lot for lot in lots):
                    lots.append([moved for moved in known if are_alike(kernel, group, way, factors, moved, middle)])
            self.assertEqual(layings_number(kernel, group, way), len(lots))

    def test_commuting_kernels(self):
        # pairs of a floor and its rows are laid groups, too
        for floor in (Floor.still(C2, (4,)), Floor.made(C2, (4,), {1: ((-1,),)}), Floor.still(V4, (2,))):
            kernel, group = Group.round(floor.rests[0]), floor.group
            powers = [kernel.power(1, i) for i in range(kernel.size)]
            way = tuple(tuple(powers[floor.moved(g, (powers.index(n),))[0]] for n in kernel) for g in group)
            for row in class_makers(floor, 2):
                row = {members: value for members, value in row.items()}
                if any(0 in members for members in row):
                    continue
                factors = {(g, h): powers[row.get((g, h), (0,))[0]] for g in group for h in group}
                laid, laying = Laid(kernel, group, way, factors), Layering(floor, row)
                for one, other in product(product(range(kernel.size), group), repeat=2):
                    both = laying.joined(((one[0],), one[1]), ((other[0],), other[1]))
                    self.assertEqual(laid.multiplied((powers[one[0]], one[1]), (powers[other[0]], other[1])),
                                     (powers[both[0][0]], both[1]))

    def test_not_true(self):
        # a kernel that cannot be laid, factors in several ways, and a kernel without a middle that is laid in one way alone
        way = next(way for kernel, group, way in CASES if kernel == D8 and group == C2 and laid_factors(D8, C2, way) is None)
        self.assertIsNotNone(way_test(D8, C2, way))
        factors = factors_of(D4, C2, (still_turn(D4),) * 2)
        middle = middle_base(D4)[0]
        self.assertIs(are_factors(D4, C2, (still_turn(D4),) * 2, factors | {(1, 1): middle}), True)
        for kernel, group, way in CASES:
            if middle_base(kernel) == ():
                self.assertEqual(layings_number(kernel, group, way), 1)

    def test_bars_between_rows(self):
        for kernel, group, way in CASES:
            base = middle_base(kernel)
            if base and group.size == 2:
                floor = middle_floor(kernel, group, way, base)
                one = bar_row(kernel, group, way, factors_of(kernel, group, way), base)
                other = bar_row(kernel, group, way, other_factors(kernel, group, way, 6), base)
                self.assertIsNotNone(source_of(floor, 3, row_difference(floor, 3, one, other)))


def are_alike(kernel, group, way, one, other, middle):
    """Whether a map of pairs that leaves each (n, 0) and each second member goes along with the products of both."""
    for choice in product(middle, repeat=group.size - 1):
        moved = (0,) + choice
        # (n, g) goes to (n moved[g], g)
        if all(kernel.product(one[(g, h)], moved[group.product(g, h)])
               == kernel.product(kernel.product(moved[g], way[g][moved[h]]), other[(g, h)]) for g in group for h in group):
            return True
    return False


if __name__ == "__main__":
    unittest.main()
