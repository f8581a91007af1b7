"""Rows of ratios: points 18.1 to 18.7."""

import random
import unittest
from fractions import Fraction
from itertools import product
from math import gcd, lcm

from examples import (A4, C1, C2, C3, C4, C5, C6, D4, E8, E16, E32, LONGEST, NO_GROUPS, NO_NUMBERS, Q8, Refusals, S3, S4,
                      TOO_LONG, V4, WRONG, orders_in_list, tuples_of)
from groupsover.base.floors import Floor
from groupsover.base.groups import Group
from groupsover.errors import InvalidGroup, InvalidNumber, InvalidOperation, InvalidRow, InvalidTable, Refused, TooMany
from groupsover.ladders.ladders import ladder_list, product_ladder, round_ladder
from groupsover.laid.layings import Layering
from groupsover.products.again import list_again
from groupsover.ratios import ratios
from groupsover.ratios.fractions import loops_list
from groupsover.ratios.ratios import (is_ratio_row, is_ratio_source, is_turning, laid_number, member_classes,
                                      passing_classes, ratio_change, ratio_list, ratio_source, turned_ratios, turning_row)
from groupsover.rows.closed import class_list, class_makers, source_of
from groupsover.rows.few import few_list

CROSS = {(2, 1): (1, 2), (2, 3): (1, 2), (3, 1): (1, 2), (3, 3): (1, 2)}
C24, C33, C44 = Group.both(C2, C4), Group.both(C3, C3), Group.both(C4, C4)
COMMUTING = (C1, C2, C3, C4, C5, C6, V4, E8, C24, C33, C44, Group.both(C2, C6), Group.round(12))
OTHERS = (S3, D4, Q8, A4)
GREAT, LEAST_GREAT = 10 ** 6, 10 ** 6 + 1
BOTTOMS = ((1, 2, 7, 12, 60), (1, 5, 24, 59), (11, 13, 60), (17, 49, 53, 60))


def ratio(fraction):
    fraction %= 1
    return fraction.numerator, fraction.denominator


def at(row, members):
    return Fraction(*row.get(members, (0, 1)))


def slow_change(group, step, row):
    """The change of a ratio row, by its words."""
    found = {}
    for members in tuples_of(group, step + 1):
        total = at(row, members[1:]) + (-1) ** (step + 1) * at(row, members[:-1])
        for k in range(step):
            total += (-1) ** (k + 1) * at(row, members[:k] + (group.product(members[k], members[k + 1]),) + members[k + 2:])
        if total % 1:
            found[members] = ratio(total)
    return found


def added(*rows):
    """The sum of ratio rows."""
    spots = sorted({members for row in rows for members in row})
    found = {members: ratio(sum(at(row, members) for row in rows)) for members in spots}
    return {members: value for members, value in found.items() if value != (0, 1)}


def times(number, row):
    return added(*[row] * number)


def some_ratios(group, step, bottoms, seed):
    """A ratio row with some bottoms, always the same one for a seed."""
    source, found = random.Random(seed), {}
    for members in tuples_of(group, step):
        bottom = source.choice(bottoms)
        value = ratio(Fraction(source.randrange(bottom), bottom))
        if value != (0, 1):
            found[members] = value
    return found


def makers_of(group):
    """Closed ratio rows whose classes make all classes: as many times 2-rows of rests as the group has members."""
    if group.size == 1 or (group.size - 1) ** 3 > 300:
        if group in COMMUTING:
            return [turning_row(group, turning) for turning in some_turnings(group)]
        return []
    floor = Floor.still(group, (group.size,))
    return [{members: ratio(Fraction(value[0], group.size)) for members, value in row.items()}
            for row in class_makers(floor, 2)]


def some_closed(group, seed, bottoms=(1, 2, 3, 4)):
    """A closed ratio row: a change, and some of the makers."""
    source = random.Random(seed)
    rows = [slow_change(group, 1, some_ratios(group, 1, bottoms, seed))]
    for maker in makers_of(group):
        rows.append(times(source.randrange(group.size), maker))
    return added(*rows)


def rounds_of(group):
    """Members of a commuting group whose rounds have it as their sum, by trying."""
    members = [g for g in group if g]
    for many in range(0, 6):
        for base in product(members, repeat=many):
            orders = [group.order(g) for g in base]
            size = 1
            for order in orders:
                size *= order
            if size == group.size and len(spread(group, base)) == size:
                return base
    raise AssertionError("no rounds")


def spread(group, base):
    """For each product of powers the exponents."""
    found = {}
    for exponents in product(*[range(group.order(g)) for g in base]):
        member = 0
        for g, exponent in zip(base, exponents):
            member = group.product(member, group.power(g, exponent))
        found[member] = exponents
    return found


def some_turnings(group):
    """Turnings that make all turnings of a commuting group."""
    base = rounds_of(group)
    exponents, found = spread(group, base), []
    for i in range(len(base)):
        for j in range(i):
            bottom = gcd(group.order(base[i]), group.order(base[j]))
            turning = {(g, h): ratio(Fraction(exponents[g][i] * exponents[h][j] - exponents[g][j] * exponents[h][i], bottom))
                       for g in group for h in group}
            found.append({members: value for members, value in turning.items() if value != (0, 1)})
    return [turning for turning in found if turning]


def slow_is_turning(group, row):
    """Whether a ratio row is a turning, by its words."""
    return all((at(row, (group.product(g, h), k)) - at(row, (g, k)) - at(row, (h, k))) % 1 == 0
               and (at(row, (k, group.product(g, h))) - at(row, (k, g)) - at(row, (k, h))) % 1 == 0
               for g in group for h in group for k in group) and all((g, g) not in row for g in group)


def slow_lots(group):
    """The lots of members that lead to one another."""
    return tuple(sorted({tuple(sorted({group.product(group.product(g, h), group.inverse(g)) for g in group})) for h in group}))


class RowTest(Refusals, unittest.TestCase):
    def test_the_example(self):
        self.assertEqual(
            [turned_ratios(V4, CROSS) == {(g, h): (1, 2) for g in (1, 2, 3) for h in (1, 2, 3) if g != h},
             passing_classes(V4, CROSS), laid_number(V4, CROSS, 2), ratio_source(V4, CROSS)], [True, ((0,),), 5, None])

    def test_constants(self):
        self.assertEqual((ratios.MAX_RATIO_GROUP, ratios.MAX_LAID_MEMBERS), (8, 96))

    def test_changes(self):
        for group in COMMUTING + OTHERS:
            for step in (1, 2):
                if group.size ** (step + 1) > 1000:
                    continue
                row = some_ratios(group, step, (1, 2, 3, 8, 100), step)
                self.assertIs(is_ratio_row(group, step, row), True)
                found = ratio_change(group, step, row)
                self.assertEqual(found, slow_change(group, step, row))
                self.assertEqual(list(found), sorted(found))
                if step == 1:
                    self.assertIs(is_ratio_row(group, 2, found), True)
                    self.assertEqual(ratio_change(group, 2, found), {})
        self.assertEqual(ratio_change(C2, 1, {(1,): (1, 4)}), {(1, 1): (1, 2)})
        self.assertEqual(ratio_change(C2, 1, {(0,): (1, GREAT)}),
                         {members: (1, GREAT) for members in ((0, 0), (0, 1), (1, 0))} | {(1, 1): (GREAT - 1, GREAT)})
        # 32 members, whose changes have 32768 tuples
        self.assertEqual(len(ratio_change(E32, 2, {(1, 2): (1, 3)})), len(slow_change(E32, 2, {(1, 2): (1, 3)})))

    def test_judged_rows(self):
        right = {(1,): (1, 2), (0,): (2, 3)}
        self.assertIs(is_ratio_row(C2, 1, right), True)
        self.assertIs(is_ratio_row(C2, 2, right), False)
        self.assertIs(is_ratio_row(C2, 2, {}), True)
        self.assertIs(is_ratio_row(C2, 1, {(1,): (1, GREAT)}), True)
        self.assertIs(is_ratio_row(C2, 1, {(1,): (1, LEAST_GREAT)}), False)
        self.assertIs(is_ratio_row(C2, 1, {(1,): (1, 1000), (0,): (1, 999)}), True)
        self.assertIs(is_ratio_row(C2, 1, {(1,): (1, 1001), (0,): (1, 1000)}), False)
        self.assertIs(is_ratio_row(C2, 1, {(1,): (1, 1001), (0,): (1, 999)}), True)
        for value in WRONG + ({1: (1, 2)}, {(2,): (1, 2)}, {(-1,): (1, 2)}, {(True,): (1, 2)}, {(1, 1): (1, 2)}, {(): (1, 2)},
                              {(1,): (0, 1)}, {(1,): (2, 4)}, {(1,): (2, 2)}, {(1,): (3, 2)}, {(1,): (-1, 2)}, {(1,): (1, -2)},
                              {(1,): (1, 0)}, {(1,): (True, 2)}, {(1,): (1, True)}, {(1,): [1, 2]}, {(1,): (1, 2, 3)},
                              {(1,): (1,)}, {(1,): 1}, {(1,): None}, {(1,): (1, None)}, {(1,): (1, TOO_LONG)},
                              {(1,): (1, LONGEST)}, {(1,): (LONGEST - 1, LONGEST)}, {(1,): ((1,), 2)}, {(1,): "12"},
                              {"1": (1, 2)}, {(1,): C2}, C2, {(None,): (1, 2)}, ((1,), (1, 2)), {(1,): (1, 2), (0,): (0, 1)},
                              {(1,): ()}, {(1,): (1, 2), (0,): (1, 10 ** 59)}):
            if value == {}:
                continue
            self.assertIs(is_ratio_row(C2, 1, value), False)
            self.refused(InvalidRow, ratio_change, C2, 1, value)
            self.assertIs(is_turning(C2, value), False)
            self.refused(InvalidTable, turning_row, C2, value)
            if value != {(1, 1): (1, 2)}:
                self.refused(InvalidRow, ratio_source, C2, value)

    def test_wrong_arguments(self):
        no_rows = ({(1,): (1, 2)}, None, (), 1, {(1, 2): (0, 1)}, {(1, 6): (1, 2)}, [CROSS], {(1, 1): (1, LEAST_GREAT)})
        for call, more in ((is_ratio_row, (1, None)), (ratio_change, (2, {})), (ratio_source, ({},)),
                           (is_ratio_source, ({}, None)), (turned_ratios, ({},)), (is_turning, (None,)), (turning_row, ({},)),
                           (member_classes, ()), (passing_classes, ({},)), (laid_number, ({}, 1)), (ratio_list, ())):
            wrongs = [(0, NO_GROUPS, InvalidGroup)]
            if call in (is_ratio_row, ratio_change):
                wrongs.append((1, NO_NUMBERS + (0, 3, -1), InvalidNumber))
            if call is ratio_change:
                wrongs.append((2, no_rows, InvalidRow))
            if call in (ratio_source, is_ratio_source, turned_ratios, passing_classes, laid_number):
                wrongs.append((1, no_rows, InvalidRow))
            if call is turning_row:
                wrongs.append((1, no_rows + ({(1, 1): (1, 2)},), InvalidTable))
            if call is laid_number:
                wrongs.append((2, NO_NUMBERS + (0, -1, 97), InvalidNumber))
            self.refuse_in_order(call, (V4,) + more, wrongs)

    def test_open_rows(self):
        opened = {(1, 1): (1, 2), (1, 2): (1, 3)}
        self.assertNotEqual(slow_change(V4, 2, opened), {})
        for call, more in ((ratio_source, ()), (is_ratio_source, (None,)), (turned_ratios, ()), (passing_classes, ()),
                           (laid_number, (6,))):
            self.refused(Refused, call, V4, opened, *more, reason=("open",))
        # one wrong entry of a closed row
        source = random.Random(3)
        for group in (C2, V4, S3, C6, D4):
            for seed in range(6):
                row = some_closed(group, seed)
                for members in source.sample(tuples_of(group, 2), 4):
                    other = added(row, {members: (1, 5)})
                    if not slow_change(group, 2, other):
                        self.assertEqual((group, members), (C2, (1, 1)))
                        continue
                    self.refused(Refused, ratio_source, group, other, reason=("open",))
                    self.refused(Refused, passing_classes, group, other, reason=("open",))

    def test_the_order_of_errors(self):
        opened, crossed = {(1, 1): (1, 2), (1, 2): (1, 3)}, {(1, 2): (1, 2)}
        # a group that does not commute is told behind a wrong row, and ahead of an open one
        self.refused(InvalidRow, turned_ratios, S3, {(1,): (1, 2)})
        self.refused(InvalidOperation, turned_ratios, S3, crossed)
        self.refused(InvalidOperation, turned_ratios, S3, {})
        self.refused(InvalidOperation, is_turning, S3, None)
        self.refused(InvalidTable, turning_row, S3, crossed)
        self.refused(InvalidOperation, turning_row, S3, {})
        # a bottom that does not divide, too many pairs, and an open row
        self.refused(InvalidOperation, laid_number, V4, opened, 25)
        self.refused(InvalidOperation, laid_number, V4, opened, 3)
        self.refused(TooMany, laid_number, V4, opened, 30, limit=96)
        self.refused(Refused, laid_number, V4, opened, 24, reason=("open",))
        self.refused(TooMany, laid_number, V4, {}, 25, limit=96)
        self.assertEqual(laid_number(V4, {}, 24), 96)
        self.assertEqual(laid_number(C1, {}, 96), 96)
        self.refused(TooMany, laid_number, C2, {}, 49, limit=96)
        self.assertEqual(laid_number(Group.round(32), {}, 3), 96)
        # an open row is told ahead of a bottom that is too great
        far = {(1, 1): (1, GREAT)}
        self.refused(Refused, ratio_source, C2, {(1, 0): (1, GREAT)}, reason=("open",))
        self.refused(TooMany, ratio_source, C2, far, limit=GREAT)
        self.refused(TooMany, is_ratio_source, C2, far, None, limit=GREAT)
        half = {(1, 1): (1, GREAT // 2)}
        self.assertEqual(slow_change(C2, 1, ratio_source(C2, half)), half)
        self.refused(TooMany, ratio_source, C2, {(1, 1): (1, GREAT // 2 + 1)}, limit=GREAT)


class SourceTest(Refusals, unittest.TestCase):
    def test_sources(self):
        told = {True: 0, False: 0}
        for group in COMMUTING + OTHERS:
            for seed in range(4):
                row = some_closed(group, seed)
                found = ratio_source(group, row)
                told[found is None] += 1
                if found is not None:
                    self.assertEqual(slow_change(group, 1, found), row)
                    self.assertIs(is_ratio_row(group, 1, found), True)
                    self.assertIs(is_ratio_source(group, row, found), True)
                    self.assertEqual(list(found), sorted(found))
                    bottoms = lcm(1, *[bottom for _, bottom in row.values()])
                    self.assertEqual(group.size * bottoms % lcm(1, *[bottom for _, bottom in found.values()]), 0)
                else:
                    # asked with rests: no row of rests is a source either
                    bottom = group.size * lcm(1, *[bottom for _, bottom in row.values()])
                    if bottom <= 1000 and (group.size - 1) ** 3 <= 300:
                        floor = Floor.still(group, (bottom,))
                        rests = {members: (top * bottom // under,) for members, (top, under) in row.items()}
                        self.assertIsNone(source_of(floor, 2, rests))
                self.assertEqual(found is None, is_no_change(group, row))
        self.assertGreater(min(told.values()), 8)

    def test_changes_have_sources(self):
        for group in COMMUTING + OTHERS + (S4, E16):
            source = some_ratios(group, 1, (1, 2, 5, 6), 3)
            row = slow_change(group, 1, source)
            self.assertIs(is_ratio_source(group, row, source), True)
            found = ratio_source(group, row)
            self.assertEqual(slow_change(group, 1, found), row)
            if len(source) > 1:
                for members in list(source)[:3]:
                    other = {key: value for key, value in source.items() if key != members}
                    self.assertIs(is_ratio_source(group, row, other), slow_change(group, 1, other) == row)

    def test_judged_sources(self):
        row = {(1, 1): (1, 2)}
        self.assertEqual([value for value in ({(1,): (1, 4)}, {(1,): (3, 4)}, {(1,): (1, 2)}, {}) if is_ratio_source(C2, row, value)],
                         [{(1,): (1, 4)}, {(1,): (3, 4)}])
        for value in WRONG + ({(1,): [1, 4]}, {(1,): (2, 8)}, {1: (1, 4)}, {(1, 1): (1, 4)}, {(1,): (1, 4), (0,): (0, 1)},
                              {(True,): (1, 4)}, C2, {(1,): (True, 4)}, {(1,): (1, 4), (2,): (1, 4)}):
            self.assertIs(is_ratio_source(C2, row, value), False)
        self.assertIs(is_ratio_source(C2, {}, {}), True)
        self.assertIs(is_ratio_source(C2, {}, {(1,): (1, 2)}), True)

    def test_lists(self):
        for group in COMMUTING + (E16, E32, Group.both(V4, C6), Group.both(C44, C2), Group.round(32)):
            found = ratio_list(group)
            # for each two rounds one of their common divisor
            base = [group.order(g) for g in rounds_of(group)] if group.size < 20 else None
            if base is not None:
                pairs = [gcd(one, other) for k, one in enumerate(base) for other in base[:k]]
                self.assertEqual(orders_in_list(found), orders_in_list([size for size in pairs if size > 1]))
            self.assertTrue(all(high % low == 0 and low > 1 for low, high in zip(found, found[1:])))
        self.assertEqual([ratio_list(group) for group in (C1, C6, V4, E8, C24, C33, C44, E16, E32, Group.both(C44, C2))],
                         [(), (), (2,), (2, 2, 2), (2,), (3,), (4,), (2,) * 6, (2,) * 10, (2, 2, 4)])
        self.assertEqual([ratio_list(group) for group in (S3, D4, Q8)], [(), (2,), ()])
        for group in (A4, S4, Group.both(S3, C2), Group(((1, 2, 3, 4, 0), (0, 4, 3, 2, 1)))):
            self.refused(TooMany, ratio_list, group, limit=8)

    def test_lists_of_renamed_groups(self):
        source = random.Random(6)
        for group in (S3, D4, Q8):
            for _ in range(6):
                # the same group on other places, so that its members stand in another order
                places = list(range(len(group.moves[0])))
                source.shuffle(places)
                moves = [tuple(places[move[places.index(place)]] for place in range(len(places))) for move in group.moves]
                chosen = Group(tuple(moves[member] for member in source.sample(range(1, group.size), 3)) + tuple(
                    moves[member] for member in (1,)))
                if chosen.size == group.size:
                    self.assertEqual(ratio_list(chosen), ratio_list(group))
        regular = Group(tuple(tuple(D4.product(g, h) for h in D4) for g in (1, 2, 4)))
        self.assertEqual((regular.size, ratio_list(regular)), (8, (2,)))

    def test_lists_by_other_roads(self):
        for group in (C1, C2, C3, C4, V4):
            self.assertEqual(ratio_list(group), class_list(Floor.still(group, (0,)), 3))
        for group in (C2, C3, C4, C5, C6, S3, Q8):
            self.assertEqual(ratio_list(group), list_again(group, 3))
        ladder = product_ladder(round_ladder(C4, 1, 4), round_ladder(C2, 1, 4))
        self.assertEqual(ratio_list(Group.both(C4, C2)), ladder_list(ladder, Floor.still(Group.both(C4, C2), (0,)), 3))
        ladder = product_ladder(product_ladder(round_ladder(C2, 1, 4), round_ladder(C2, 1, 4)), round_ladder(C2, 1, 4))
        self.assertEqual(ratio_list(E8), ladder_list(ladder, Floor.still(E8, (0,)), 3))

    def test_classes_of_eight(self):
        # how many closed rows there are but for changes, where bottoms divide the size: counted by makers
        for group in (C2, C3, C4, V4, C6, S3):
            rows = makers_of(group)
            many = 1
            for size in ratio_list(group):
                many *= size
            known = [{}]
            for row in rows:
                for reached in list(known):
                    for number in range(1, group.size):
                        further = added(reached, times(number, row))
                        if all(is_no_change(group, added(further, times(group.size * 24 - 1, other))) for other in known):
                            known.append(further)
            self.assertEqual(len(known), many)

    def test_not_true(self):
        row = slow_change(V4, 1, {(1,): (1, 3)})
        self.assertNotEqual(row, {})
        self.assertEqual(turned_ratios(V4, row), {})
        # with rests in the place of ratios such a row need be no change
        two = Floor.still(C2, (2,))
        self.assertIsNone(source_of(two, 2, {(1, 1): (1,)}))
        self.assertEqual(ratio_source(C2, {(1, 1): (1, 2)}) is None, False)
        self.assertEqual(turned_ratios(C2, {(1, 1): (1, 2)}), {})


def is_no_change(group, row):
    """Whether a closed row is no change: by what it has in both orders of members that commute, for these groups."""
    if group in (S3, Q8):
        return False
    return any(at(row, (g, h)) != at(row, (h, g)) for g in group for h in group
               if group.product(g, h) == group.product(h, g))


class DrawnTest(Refusals, unittest.TestCase):
    """Changes of drawn values, and lists of all groups of up to eight members."""

    def drawn(self, group, seed):
        """Values with bottoms to 60, the change of them, and three rows that differ from these values."""
        low = some_ratios(group, 1, BOTTOMS[seed % len(BOTTOMS)], seed)
        source = random.Random(seed)
        member = (source.randrange(group.size),)
        changed = added(low, {member: (1, source.choice((2, 9, 60)))})
        less = {members: value for members, value in low.items() if members != member}
        return low, slow_change(group, 1, low), (changed, less, {**low, (0,): (3, 7)})

    def test_told_and_judged(self):
        for group in COMMUTING + OTHERS + (S4,):
            for seed in range(6):
                low, row, others = self.drawn(group, seed)
                self.assertEqual(ratio_change(group, 1, low), row)
                if group.size * lcm(1, *[under for _, under in row.values()]) > GREAT:
                    self.refused(TooMany, ratio_source, group, row, limit=GREAT)
                    self.refused(TooMany, is_ratio_source, group, row, low, limit=GREAT)
                    continue
                self.assertIs(is_ratio_source(group, row, low), True)
                for other in others:
                    self.assertIs(is_ratio_source(group, row, other), slow_change(group, 1, other) == row)
                found = ratio_source(group, row)
                self.assertEqual(slow_change(group, 1, found), row)
                self.assertIs(is_ratio_source(group, row, found), True)

    def test_changed_rows(self):
        for group in (C2, V4, S3, D4, Q8):
            for seed in range(8):
                low, row, _ = self.drawn(group, len(BOTTOMS) * seed)
                source = random.Random(seed)
                members = (source.randrange(group.size), source.randrange(group.size))
                for other in (added(row, {members: (1, 3)}), {key: row[key] for key in row if key != members},
                              {**row, members: (5, 6)}):
                    if slow_change(group, 2, other):
                        for call, more in ((ratio_source, ()), (is_ratio_source, (low,)), (is_ratio_source, (None,))):
                            self.refused(Refused, call, group, other, *more, reason=("open",))
                    else:
                        self.assertIs(is_ratio_source(group, other, low), other == row)

    def test_the_sources_that_are_told(self):
        # values 7 i / 60 have these sources, which differ from them where the group leads on to ratios
        for group, sources in (
                (D4, ((37, 60), (11, 15), (7, 20), (29, 30), (7, 12), (7, 10), (19, 60))),
                (S3, ((37, 60), (11, 15), (7, 20), (7, 15), (1, 12))),
                (V4, ((7, 60), (7, 30), (7, 20))), (C6, ((7, 60), (7, 30), (7, 20), (7, 15), (7, 12)))):
            low = {(member,): ratio(Fraction(7 * member, 60)) for member in range(1, group.size)}
            found = ratio_source(group, ratio_change(group, 1, low))
            self.assertEqual(found, {(member,): sources[member - 1] for member in range(1, group.size)})

    def test_lists_of_all_small_groups(self):
        quaternions = Group(((1, 4, 3, 6, 5, 0, 7, 2), (2, 7, 4, 1, 6, 3, 0, 5)))
        for group, numbers in ([(Group.round(size), ()) for size in range(1, 9)]
                               + [(V4, (2,)), (C24, (2,)), (E8, (2, 2, 2)), (S3, ()), (D4, (2,)), (Q8, ()), (quaternions, ())]
                               + [(Group(((1, 0, 2), (1, 2, 0))), ()), (Group.both(C4, C2), (2,))]):
            self.assertEqual(ratio_list(group), numbers)
            # asked by loops, by few tuples, and where there is one by the floor of the integers
            self.assertEqual(loops_list(group), numbers)
            self.assertEqual(few_list(Floor.still(group, (0,)), 3), numbers)
            if (group.size - 1) ** 4 <= 300:
                self.assertEqual(class_list(Floor.still(group, (0,)), 3), numbers)

    def test_lists_by_loops_of_greater_groups(self):
        dihedral = Group(((1, 2, 3, 4, 5, 0), (0, 5, 4, 3, 2, 1)))
        for group, numbers in ((A4, (2,)), (S4, (2,)), (Group.both(S3, C2), (2,)), (dihedral, (2,)), (E16, (2,) * 6),
                               (Group.both(D4, C2), (2, 2, 2)), (Group.both(Q8, C2), (2, 2)), (Group.both(S3, C3), ())):
            self.assertEqual(loops_list(group), numbers)


class TurningTest(Refusals, unittest.TestCase):
    def test_turned_rows(self):
        for group in COMMUTING:
            for seed in range(3):
                row = some_closed(group, seed)
                found = turned_ratios(group, row)
                wanted = {(g, h): ratio(at(row, (g, h)) - at(row, (h, g))) for g in group for h in group}
                self.assertEqual(found, {members: value for members, value in wanted.items() if value != (0, 1)})
                self.assertEqual(list(found), sorted(found))
                self.assertTrue(slow_is_turning(group, found))
                self.assertIs(is_turning(group, found), True)
                # a change exactly if it is turned to {}
                self.assertEqual(found == {}, ratio_source(group, row) is not None)

    def test_turnings(self):
        for group in COMMUTING:
            source = random.Random(4)
            made = some_turnings(group)
            for _ in range(4):
                turning = added(*[times(source.randrange(6), one) for one in made])
                self.assertIs(is_turning(group, turning), True)
                row = turning_row(group, turning)
                self.assertEqual(slow_change(group, 2, row), {})
                self.assertEqual(turned_ratios(group, row), turning)
                self.assertEqual(list(row), sorted(row))
                for members in source.sample(tuples_of(group, 2), min(3, group.size)):
                    for value in ((1, 2), (1, 3), (1, 4)):
                        other = added(turning, {members: value})
                        self.assertIs(is_turning(group, other), slow_is_turning(group, other))
        # as many turnings as classes
        for group in (V4, C33, C24):
            bottom = 3 if group == C33 else 2
            made, known = some_turnings(group), [{}]
            for one in made:
                for reached in list(known):
                    for number in range(1, bottom):
                        further = added(reached, times(number, one))
                        if further not in known:
                            known.append(further)
            many = 1
            for size in ratio_list(group):
                many *= size
            self.assertEqual(len(known), many)
        self.assertIs(is_turning(E32, {}), True)
        self.assertEqual(turning_row(E32, {}), {})
        # equal in both places, and so no turning, though it goes along with products
        self.assertIs(is_turning(C2, {(1, 1): (1, 2)}), False)
        self.assertIs(is_turning(V4, {(1, 1): (1, 2), (1, 3): (1, 2), (3, 1): (1, 2), (3, 3): (1, 2)}), False)

    def test_great_turnings(self):
        group = Group.both(C4, Group.round(8))
        for turning in some_turnings(group):
            row = turning_row(group, turning)
            self.assertEqual(turned_ratios(group, row), turning)
        self.assertEqual(ratio_list(group), (4,))


class PassingTest(Refusals, unittest.TestCase):
    def test_lots(self):
        for group in COMMUTING + OTHERS + (S4, E32):
            self.assertEqual(member_classes(group), slow_lots(group))
        self.assertEqual(member_classes(S3), ((0,), (1, 2, 5), (3, 4)))

    def test_passing(self):
        for group in COMMUTING + OTHERS:
            if group.size > 12:
                continue
            for seed in range(3):
                row = some_closed(group, seed)
                passed = [g for g in group if all(at(row, (g, h)) == at(row, (h, g)) for h in group
                                                  if group.product(g, h) == group.product(h, g))]
                lots = slow_lots(group)
                # all members of a lot pass, or none does
                for lot in lots:
                    self.assertIn(len([g for g in lot if g in passed]), (0, len(lot)))
                self.assertEqual(passing_classes(group, row), tuple(lot for lot in lots if lot[0] in passed))
                other = added(row, slow_change(group, 1, some_ratios(group, 1, (1, 2, 7), seed)))
                self.assertEqual(passing_classes(group, other), passing_classes(group, row))
            self.assertEqual(passing_classes(group, {}), slow_lots(group))

    def test_laid_numbers(self):
        many = 0
        for group in (C1, C2, C3, C4, V4, S3, C6, D4, Q8, E8, C24):
            for seed in range(3):
                row = some_closed(group, seed, (1, 2, 3))
                bottom = lcm(1, *[under for _, under in row.values()])
                for number in (bottom, 2 * bottom, 3 * bottom):
                    if number > 96 or number * group.size > 96:
                        continue
                    wanted = sum(len(passing_classes(group, times(i, row) if i else {})) for i in range(number))
                    self.assertEqual(laid_number(group, row, number), wanted)
                    if number > 1 and number * group.size <= 48:
                        self.assertEqual(laid_lots(group, row, number), wanted)
                        many += 1
        self.assertGreater(many, 10)
        self.assertEqual(laid_number(S3, {}, 1), 3)
        self.assertEqual(laid_number(V4, CROSS, 4), 10)


def laid_lots(group, row, number):
    """How many lots of pairs there are, by the table of a laying."""
    floor = Floor.still(group, (number,))
    laying = Layering(floor, {members: (top * number // bottom,) for members, (top, bottom) in row.items()})
    table = laying.pairs_table()
    size = len(table)
    neutral = next(k for k in range(size) if table[k][k] == k)
    back = [next(j for j in range(size) if table[k][j] == neutral) for k in range(size)]
    return len({min(table[table[p][k]][back[p]] for p in range(size)) for k in range(size)})


if __name__ == "__main__":
    unittest.main()
