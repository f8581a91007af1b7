"""Ladders: points 0.16 and 10.1 to 10.6."""

import unittest

from examples import (C1, C2, C3, C4, C5, C6, D4, E8, E16, LONGEST, MIXED, NO_FLOORS, NO_GROUPS, NO_NUMBERS, PLANE, Q8,
                      Refusals, S3, SIGN, SWAP, TOO_LONG, TWIST, V4, WALL, WRONG, Z2, Z3, ZS, regular, slow_change,
                      some_row, tuples_of, wrong_values)
from groupsover.base.floors import Floor, fixed_list
from groupsover.base.groups import Group
from groupsover.errors import InvalidFloor, InvalidGroup, InvalidMap, InvalidNumber, InvalidOperation, InvalidRow
from groupsover.errors import InvalidTable, TooMany
from groupsover.ladders import ladders
from groupsover.ladders.ladders import (Ladder, bar_ladder, is_exact_to, is_joined_map, joined_map, ladder_change,
                                        ladder_list, ladder_source, led_over, product_ladder, round_ladder)
from groupsover.rows.closed import class_list, class_makers
from groupsover.rows.rows import is_clean

LESS, MEAN = {0: -1, 1: 1}, {0: 1, 1: 1}
# a round ladder over two members with a further row in each step, which shows nothing new
WIDE = Ladder(C2, (((LESS,), ({},)), ((MEAN, {}), ({}, {0: 1})), ((LESS, {}), ({}, {}))))
HALF = Ladder(C2, (((LESS,),), (({0: 2, 1: 2},),)))


def ladders_over(group):
    """Some exact ladders over a group, all of one height."""
    if group == V4:
        return (bar_ladder(V4, 3), product_ladder(round_ladder(C2, 1, 3), round_ladder(C2, 1, 3)),
                product_ladder(bar_ladder(C2, 3), round_ladder(C2, 1, 3)))
    if group == S3:
        return (bar_ladder(S3, 2),)
    if group == C1:
        return (round_ladder(C1, 0, 3),)
    if group == C2:
        return (bar_ladder(C2, 3), round_ladder(C2, 1, 3), WIDE)
    makers = [member for member in group if group.order(member) == group.size]
    height = 3 if group.size < 5 else 2
    return (bar_ladder(group, height), round_ladder(group, makers[0], height), round_ladder(group, makers[-1], height))


FAR = Floor.made(C2, (0, 0), {1: ((1, 10 ** 20), (0, -1))})
FLOORS = (ZS, SWAP, MIXED, TWIST, Z2, Floor.still(C2, (0,)), PLANE, Z3, Floor.still(C3, (0, 9)), Floor.still(C4, (0, 8)),
          Floor.made(C4, (5,), {1: ((2,),)}), Floor.made(C4, (0, 0), {1: ((0, -1), (1, 0))}), regular(C4, 6),
          Floor.still(V4, (0, 4)), regular(V4, 0), SIGN, WALL, Floor.still(S3, (6,)), Floor.still(C5, (0, 5)),
          Floor.still(C1, (0, 3)), Floor.still(C6, (0,)), FAR)


def some_ladder_row(floor, wide, bound, seed):
    """A tuple of values, always the same one for a seed."""
    group = Group.round(min(wide, 32))
    row = some_row(Floor.still(group, floor.rests), 2, bound, seed)
    zero = (0,) * floor.places
    return tuple(row.get(members, zero) for members in tuples_of(group, 2)[:wide])


def led_sum(floor, told, value):
    """What a sum of members makes of a value."""
    total = (0,) * floor.places
    for member, times in told.items():
        total = floor.added(total, floor.repeated(times, floor.moved(member, value)))
    return total


def slow_led(floor, table, row):
    """What a table of sums makes of a ladder row, by its words alone."""
    found = []
    for line in table:
        total = (0,) * floor.places
        for told, value in zip(line, row):
            total = floor.added(total, led_sum(floor, told, value))
        found.append(total)
    return tuple(found)


def sum_product(group, one, other):
    """The product of two sums."""
    found = {}
    for g, left in one.items():
        for h, right in other.items():
            found[group.product(g, h)] = found.get(group.product(g, h), 0) + left * right
    return found


def table_product(group, one, other):
    """The product of two tables of sums."""
    found = []
    for line in one:
        cells = []
        for column in range(len(other[0])):
            total = {}
            for told, row in zip(line, other):
                for member, times in sum_product(group, told, row[column]).items():
                    total[member] = total.get(member, 0) + times
            cells.append({member: times for member, times in sorted(total.items()) if times})
        found.append(tuple(cells))
    return tuple(found)


class LadderTest(Refusals, unittest.TestCase):
    def test_the_example(self):
        self.assertEqual([bar_ladder(C3, 2).widths, round_ladder(C4, 1, 3).told_tables[0],
                          ladder_list(round_ladder(C4, 1, 4), Floor.still(C4, (0,)), 2),
                          product_ladder(round_ladder(C2, 1, 3), round_ladder(C2, 1, 3)).widths],
                         [(1, 2, 4), (({0: -1, 1: 1},),), (4,), (1, 2, 3, 4)])

    def test_constants(self):
        self.assertEqual((ladders.MOST_WIDE, ladders.MOST_HEIGHT, ladders.MOST_LADDERED), (60, 6, 300))

    def test_what_it_keeps(self):
        told = {1: 1, 0: -1}
        one = Ladder(C2, (((told,),),))
        told[0] = 7
        self.assertEqual(one.told_tables, (((LESS,),),))
        self.assertEqual(list(one.told_tables[0][0][0]), [0, 1])
        one.told_tables[0][0][0].clear()
        self.assertEqual(one.told_tables, (((LESS,),),))
        self.assertEqual((one.laddered, one.widths, len(one), str(one)),
                         (C2, (1, 1), 1, "ladder over 2 members with widths 1 1"))
        self.assertEqual(str(bar_ladder(C4, 2)), "ladder over 4 members with widths 1 3 9")
        self.assertTrue(one == round_ladder(C2, 1, 1))
        self.assertFalse(one != round_ladder(C2, 1, 1))
        self.assertFalse(one == round_ladder(C2, 1, 2))
        self.assertFalse(round_ladder(C1, 0, 2) == Ladder(C2, ((({},),), (({0: 1},),))))
        for other in WRONG + (C2, ZS, one.told_tables):
            self.assertFalse(one == other)
            self.assertTrue(one != other)
        with self.assertRaises(TypeError):
            iter(one)

    def test_wrong_ladders(self):
        less, mean = ((LESS,),), ((MEAN,),)
        wrong = WRONG + ((), [less], (less, less), (mean,), ((),), (((),),), ([(LESS,)],), ((([LESS],)),),
                         ((LESS,),), LESS, (((LESS, LESS),),), (((LESS,), (LESS, LESS)),), (less, ((MEAN, MEAN),)),
                         ((({0: True, 1: -1},),),), ((({0: 0},),),), ((({2: 1, 0: -1},),),), ((({True: 1, 0: -1},),),),
                         ((({"0": 1, 1: -1},),),), ((({0: TOO_LONG, 1: -TOO_LONG},),),), ((({0: 1},),),),
                         (((None,),),), ((((0, 1),),),), (((LESS,),) * 61,), (less, mean) * 3 + (less,), C2, ZS,
                         (less, ((LESS,), (MEAN,))), (less, ((MEAN,),), ((MEAN,),)), ((({None: 1},),),), (((True,),),))
        self.refuse_in_order(Ladder, (C2, (less,)), [(0, NO_GROUPS, InvalidGroup), (1, wrong, InvalidTable)])
        self.assertEqual(len(Ladder(C2, (less, mean) * 3)), 6)
        self.assertEqual(Ladder(C2, (((LESS,),) * 60,)).widths, (1, 60))
        self.assertEqual(Ladder(C2, ((({0: LONGEST, 1: -LONGEST},),),)).told_tables[0][0][0][1], -LONGEST)
        self.assertEqual(Ladder(S3, ((({},),), (({5: 4, 2: -1},),))).widths, (1, 1, 1))

    def test_tables_go_to_zero(self):
        for group in (C1, C2, C3, C4, C5, C6, V4, S3):
            for one in ladders_over(group):
                tables = one.told_tables
                self.assertEqual(Ladder(group, tables), one)
                for lower, upper in zip(tables, tables[1:]):
                    self.assertTrue(all(told == {} for line in table_product(group, upper, lower) for told in line))
                self.assertTrue(all(sum(line[0].values()) == 0 for line in tables[0]))

    def test_bar_ladders(self):
        table = bar_ladder(C3, 2).told_tables
        self.assertEqual(table[0], (({0: -1, 1: 1},), ({0: -1, 2: 1},)))
        # (1, 1): 1 at (1), less 1 at (2), and 1 at (1)
        self.assertEqual(table[1][0], ({0: 1, 1: 1}, {0: -1}))
        self.assertEqual(table[1][1], ({0: 1}, {1: 1}))
        for floor in FLOORS[:16]:
            group = floor.group
            one = ladders_over(group)[0]
            if group == C1:
                continue
            zero = (0,) * floor.places
            members = list(range(1, group.size))
            for step in range(len(one)):
                lower = [known for known in tuples_of(group, step) if 0 not in known]
                upper = [known for known in tuples_of(group, step + 1) if 0 not in known]
                self.assertEqual((one.widths[step], one.widths[step + 1]), (len(lower), len(upper)))
                row = some_ladder_row(floor, len(lower), 9, 3)
                told = {known: value for known, value in zip(lower, row) if any(value)}
                self.assertTrue(is_clean(floor, step, told) if step else True)
                changed = slow_change(floor, step, told)
                self.assertEqual(ladder_change(one, floor, step, row),
                                 tuple(changed.get(known, zero) for known in upper))
            self.assertEqual(len(members), group.size - 1)
        self.assertEqual(bar_ladder(C2, 6).widths, (1,) * 7)
        self.assertEqual(bar_ladder(C3, 5).widths, (1, 2, 4, 8, 16, 32))

    def test_round_ladders(self):
        for group, member in ((C4, 3), (C6, 5), (C5, 2), (Group.round(32), 7), (C1, 0)):
            tables = round_ladder(group, member, 5).told_tables
            less = {0: -1, member: 1} if member else {}
            for step, table in enumerate(tables, 1):
                self.assertEqual(table, ((less if step % 2 else {g: 1 for g in group},),))

    def test_product_ladders(self):
        # by the words: the row of (i, j) is that of i, beside j, and with a sign that of j, beside i
        one, other = bar_ladder(C3, 2), round_ladder(C2, 1, 2)
        found = product_ladder(one, other)
        group = Group.both(C3, C2)
        self.assertEqual((found.laddered, found.widths), (group, (1, 3, 7)))
        self.assertEqual(Ladder(group, found.told_tables), found)
        for step in (1, 2):
            rows = [(p, i, j) for p in range(step, -1, -1) for i in range(one.widths[p])
                    for j in range(other.widths[step - p])]
            columns = [(p, i, j) for p in range(step - 1, -1, -1) for i in range(one.widths[p])
                       for j in range(other.widths[step - 1 - p])]
            for (p, i, j), line in zip(rows, found.told_tables[step - 1]):
                for (q, k, m), told in zip(columns, line):
                    wanted = {}
                    if q == p - 1 and m == j:
                        wanted = {g * 2: times for g, times in one.told_tables[p - 1][i][k].items()}
                    if q == p and k == i:
                        wanted = {h: (-1) ** p * times for h, times in other.told_tables[step - p - 1][j][m].items()}
                    self.assertEqual(told, wanted)
        three = product_ladder(product_ladder(round_ladder(C2, 1, 2), round_ladder(C2, 1, 2)), round_ladder(C2, 1, 2))
        self.assertEqual((three.widths, three.laddered), ((1, 3, 6), E8))
        self.assertIs(is_exact_to(three, 2), True)

    def test_wrong_makers(self):
        no_heights, no_ladders = NO_NUMBERS + (0, 7, -1), WRONG + (C2, ZS, ((LESS,),))
        self.refuse_in_order(bar_ladder, (C2, 2), [(0, NO_GROUPS, InvalidGroup), (1, no_heights, InvalidNumber)])
        self.refuse_in_order(round_ladder, (C4, 1, 2), [
            (0, NO_GROUPS, InvalidGroup), (1, NO_NUMBERS + (0, 2, 4, -1), InvalidNumber), (2, no_heights, InvalidNumber)])
        self.refused(InvalidNumber, round_ladder, V4, 1, 0, given=1)
        self.refused(InvalidOperation, bar_ladder, C1, 1)
        self.refused(InvalidNumber, bar_ladder, C1, 7, given=7)
        for group, right in ((C2, 6), (C3, 5), (V4, 3), (C5, 2), (D4, 2), (Group.round(32), 1)):
            self.assertEqual(len(bar_ladder(group, right)), right)
            if right < 6:
                self.refused(TooMany, bar_ladder, group, right + 1, limit=60)
        self.refuse_in_order(product_ladder, (round_ladder(C2, 1, 2), round_ladder(C2, 1, 2)), [
            (0, no_ladders, InvalidOperation), (1, no_ladders, InvalidOperation)])
        self.refused(InvalidOperation, product_ladder, round_ladder(Group.round(17), 1, 2), round_ladder(C2, 1, 3))
        self.refused(TooMany, product_ladder, round_ladder(Group.round(17), 1, 2), round_ladder(C2, 1, 2), limit=32)
        self.refused(TooMany, product_ladder, round_ladder(Group.round(32), 1, 2), round_ladder(C1, 0, 2), limit=32)
        self.assertEqual(len(product_ladder(round_ladder(Group.round(16), 1, 2), round_ladder(C2, 1, 2))), 2)
        self.refused(TooMany, product_ladder, bar_ladder(V4, 3), bar_ladder(C3, 3), limit=60)
        self.assertEqual(product_ladder(bar_ladder(V4, 3), round_ladder(C2, 1, 3)).widths, (1, 4, 13, 40))


class ExactTest(Refusals, unittest.TestCase):
    def test_exact_ladders(self):
        for group in (C1, C2, C3, C4, C5, C6, V4, S3):
            for one in ladders_over(group):
                for number in range(1, len(one) + 1):
                    if max(one.widths[:number + 1]) * group.size <= 300:
                        self.assertIs(is_exact_to(one, number), True)

    def test_ladders_that_are_not_exact(self):
        # half of the sums are missed
        self.assertEqual([is_exact_to(HALF, number) for number in (1, 2)], [True, False])
        self.assertIs(is_exact_to(Ladder(C2, ((({},),),)), 1), False)
        self.assertIs(is_exact_to(Ladder(C1, ((({},),),)), 1), True)
        self.assertIs(is_exact_to(Ladder(C2, (((LESS,),), (({},),))), 2), False)
        self.assertIs(is_exact_to(Ladder(C2, ((({0: -2, 1: 2},),),)), 1), False)
        self.assertIs(is_exact_to(Ladder(C2, ((({0: -2, 1: 2},), ({0: -3, 1: 3},)),)), 1), True)
        self.assertIs(is_exact_to(Ladder(C4, ((({0: -1, 2: 1},),),)), 1), False)
        self.assertIs(is_exact_to(Ladder(V4, ((({0: -1, 1: 1},), ({0: -1, 2: 1},)),)), 1), True)
        self.assertIs(is_exact_to(Ladder(V4, ((({0: -1, 1: 1},), ({0: -1, 2: 1},)), (({0: 1, 1: 1}, {}),))), 2), False)
        # by a prime alone: three times what is needed
        tables = round_ladder(C3, 1, 3).told_tables
        self.assertIs(is_exact_to(Ladder(C3, (tables[0], (({0: 3, 1: 3, 2: 3},),))), 2), False)
        self.assertIs(is_exact_to(Ladder(C3, tables[:2] + ((({0: -5, 1: 5},),),)), 3), False)

    def test_wrong_numbers(self):
        one = round_ladder(C2, 1, 3)
        for wrong in WRONG + (C2, ZS):
            self.refused(InvalidOperation, is_exact_to, wrong, 9)
        for wrong in NO_NUMBERS + (0, 4, -1):
            self.refused_number(is_exact_to, wrong, one, wrong)
        great = bar_ladder(D4, 2)
        self.assertIs(is_exact_to(great, 1), True)
        self.refused(TooMany, is_exact_to, great, 2, limit=300)
        self.refused(InvalidNumber, is_exact_to, great, 3, given=3)
        edge = Ladder(C5, (((LESS,),) * 60,))
        self.assertIs(is_exact_to(edge, 1), True)
        self.refused(TooMany, is_exact_to, Ladder(C6, (((LESS,),) * 51,)), 1, limit=300)
        self.assertIs(is_exact_to(Ladder(C6, (((LESS,),) * 50,)), 1), True)


class LadderRowTest(Refusals, unittest.TestCase):
    def test_changes_by_words(self):
        for floor in FLOORS:
            for one in ladders_over(floor.group):
                for step in range(len(one)):
                    for seed, bound in ((1, 9), (2, 10 ** 30)):
                        row = some_ladder_row(floor, one.widths[step], bound, seed)
                        found = ladder_change(one, floor, step, row)
                        self.assertEqual(found, slow_led(floor, one.told_tables[step], row))
                        if step + 1 < len(one):
                            self.assertEqual(ladder_change(one, floor, step + 1, found),
                                             ((0,) * floor.places,) * one.widths[step + 2])

    def test_sources(self):
        for floor in FLOORS:
            for one in ladders_over(floor.group):
                for step in range(1, len(one) + 1):
                    for seed, bound in ((1, 9), (2, 10 ** 30), (3, 10 ** (57 if floor != FAR else 38))):
                        row = some_ladder_row(floor, one.widths[step - 1], bound, seed)
                        changed = slow_led(floor, one.told_tables[step - 1], row)
                        found = ladder_source(one, floor, step, changed)
                        self.assertEqual(slow_led(floor, one.told_tables[step - 1], found), changed)
                        self.assertEqual(ladder_change(one, floor, step - 1, found), changed)

    def test_sources_and_lists_agree(self):
        # all ladder rows of a small finite floor: how many are changes, and how many have the change 0
        for floor in (Z2, TWIST, Z3, Floor.still(C4, (4,)), Floor.made(C4, (5,), {1: ((2,),)}), Floor.still(V4, (2,))):
            for one in ladders_over(floor.group):
                for step in range(1, len(one)):
                    if floor.floor_size ** one.widths[step] > 600:
                        continue
                    rows = [()]
                    for _ in range(one.widths[step]):
                        rows = [row + (value,) for row in rows for value in self.all_values(floor)]
                    sources = [ladder_source(one, floor, step, row) for row in rows]
                    for row, source in zip(rows, sources):
                        if source is not None:
                            self.assertEqual(ladder_change(one, floor, step - 1, source), row)
                    zero = ((0,) * floor.places,) * one.widths[step + 1]
                    closed = sum(ladder_change(one, floor, step, row) == zero for row in rows)
                    number = 1
                    for size in ladder_list(one, floor, step):
                        number *= size
                    self.assertEqual(closed, number * sum(source is not None for source in sources))

    def all_values(self, floor):
        found = [()]
        for rest in floor.rests:
            found = [value + (entry,) for value in found for entry in range(rest)]
        return found

    def test_no_sources(self):
        one = round_ladder(C2, 1, 3)
        self.assertIsNone(ladder_source(one, Floor.still(C2, (0,)), 2, ((3,),)))
        self.assertEqual(ladder_source(one, Floor.still(C2, (0,)), 2, ((4,),)), ((2,),))
        self.assertIsNone(ladder_source(one, ZS, 1, ((3,),)))
        self.assertEqual(ladder_source(one, ZS, 1, ((LONGEST - 1,),)), ((-(LONGEST - 1) // 2,),))
        # rows with another change than 0 have no source
        self.assertIsNone(ladder_source(one, ZS, 2, ((2,),)))
        self.assertIsNone(ladder_source(bar_ladder(C3, 2), Floor.still(C3, (0,)), 2, ((1,), (0,), (0,), (0,))))
        self.assertEqual(ladder_source(HALF, Floor.still(C2, (0,)), 2, ((8,),)), ((2,),))
        self.assertIsNone(ladder_source(HALF, Floor.still(C2, (0,)), 2, ((6,),)))

    def test_lists_by_all_roads(self):
        for floor in FLOORS:
            for one in ladders_over(floor.group):
                self.assertEqual(ladder_list(one, floor, 0), fixed_list(floor))
                for step in range(1, len(one)):
                    found = ladder_list(one, floor, step)
                    self.assertEqual(found, ladder_list(ladders_over(floor.group)[0], floor, step))
                    if (floor.group.size - 1) ** (step + 1) * floor.places <= 300:
                        self.assertEqual(found, class_list(floor, step))
        self.assertEqual([ladder_list(bar_ladder(C2, 6), ZS, step) for step in range(6)], [(), (2,), (), (2,), (), (2,)])
        self.assertEqual(ladder_list(round_ladder(Group.round(32), 1, 6), Floor.still(Group.round(32), (0, 16)), 4),
                         (16, 32))
        line = product_ladder(product_ladder(round_ladder(C2, 1, 6), round_ladder(C2, 1, 6)), round_ladder(C2, 1, 6))
        self.assertEqual([len(ladder_list(line, Floor.still(E8, (2,)), step)) for step in range(6)], [1, 3, 6, 10, 15, 21])

    def test_exact_only_to_the_step_above(self):
        self.assertEqual(ladder_list(HALF, ZS, 0), ())
        self.assertEqual(ladder_list(HALF, Floor.still(C2, (0, 4)), 0), (4, 0))

    def test_wrong_arguments(self):
        one, no_ladders = bar_ladder(C3, 2), WRONG + (C2, ZS)
        floor = PLANE
        no_rows = wrong_values(floor) + (((0, 0),), ((0, 0),) * 3, [(0, 0), (0, 0)], ((0, 0), (0,)), ((0, 0), (0, True)),
                                         ((0, 0), (0, TOO_LONG)), {(1,): (0, 0), (2,): (0, 0)}, ((0, 0), None))
        no_steps, no_floors = NO_NUMBERS + (-1, 9), NO_FLOORS + (ZS,)
        for call, steps in ((ladder_change, (2,)), (ladder_source, (0, 3))):
            right = (one, floor, 1, ((0, 0), (0, 0)))
            self.refuse_in_order(call, right, [
                (0, no_ladders, InvalidOperation), (1, no_floors, InvalidFloor), (2, no_steps + steps, InvalidNumber),
                (3, no_rows, InvalidRow)])
        self.refuse_in_order(ladder_list, (one, floor, 1), [
            (0, no_ladders, InvalidOperation), (1, no_floors, InvalidFloor), (2, no_steps + (2,), InvalidNumber)])
        far = Floor.still(C2, (0,))
        self.refused(TooMany, ladder_change, round_ladder(C2, 1, 3), far, 1, ((LONGEST,),), limit=60)
        self.assertEqual(ladder_change(round_ladder(C2, 1, 3), far, 1, ((LONGEST // 2,),)), ((2 * (LONGEST // 2),),))
        self.assertEqual(ladder_change(round_ladder(C2, 1, 3), far, 0, ((LONGEST,),)), ((0,),))

    def test_wide_steps(self):
        one = bar_ladder(V4, 3)
        floor = Floor.still(V4, (0,) * 12)
        zero = (0,) * 12
        # 27 rows of twelve places each are too many one step away
        self.assertEqual(ladder_list(one, floor, 0), (0,) * 12)
        self.assertEqual(ladder_list(one, floor, 1), ())
        self.refused(TooMany, ladder_list, one, floor, 2, limit=300)
        self.assertEqual(ladder_source(one, floor, 1, (zero,) * 3), (zero,))
        self.refused(TooMany, ladder_source, one, floor, 2, (zero,) * 9, limit=300)
        self.refused(TooMany, ladder_source, one, floor, 3, (zero,) * 27, limit=300)
        self.refused(InvalidRow, ladder_source, one, floor, 3, (zero,) * 9)
        self.assertEqual(ladder_change(one, floor, 2, (zero,) * 9), (zero,) * 27)
        edge = Floor.still(V4, (0,) * 11)
        self.assertEqual(ladder_list(one, edge, 2), (2,) * 22)
        wide = Ladder(C2, (((LESS,),) * 60,))
        self.assertEqual(ladder_list(wide, Floor.still(C2, (0,) * 5), 0), (0,) * 5)
        self.refused(TooMany, ladder_list, wide, Floor.still(C2, (0,) * 6), 0, limit=300)
        changed = ladder_change(wide, Floor.made(C2, (0,), {1: ((-1,),)}), 0, ((7,),))
        self.assertEqual(ladder_source(wide, ZS, 1, changed), ((7,),))


class JoinedMapTest(Refusals, unittest.TestCase):
    def test_joined_maps(self):
        for group in (C1, C2, C3, C4, C5, V4, S3):
            for one in ladders_over(group):
                for other in ladders_over(group):
                    found = joined_map(one, other)
                    self.assertIs(is_joined_map(one, other, found), True)
                    self.assertEqual([(len(table), len(table[0])) for table in found],
                                     list(zip(one.widths, other.widths)))
                    self.assertEqual(sum(found[0][0][0].values()), 1)
                    for step in range(1, len(one) + 1):
                        self.assertEqual(table_product(group, one.told_tables[step - 1], found[step - 1]),
                                         table_product(group, found[step], other.told_tables[step - 1]))
                    for table in found:
                        for line in table:
                            for told in line:
                                self.assertEqual(list(told), sorted(told))

    def test_led_over(self):
        for floor in FLOORS[:19]:
            for one in ladders_over(floor.group):
                for other in ladders_over(floor.group):
                    table = joined_map(one, other)
                    for step in range(len(one) + 1):
                        row = some_ladder_row(floor, other.widths[step], 9, step)
                        found = led_over(one, other, table, floor, step, row)
                        self.assertEqual(found, slow_led(floor, table[step], row))
                        if step < len(one):
                            changed = led_over(one, other, table, floor, step + 1, ladder_change(other, floor, step, row))
                            self.assertEqual(ladder_change(one, floor, step, found), changed)

    def test_classes_are_led_alike(self):
        # ladder rows of the makers of classes, led over and back again, differ by a change
        for floor in (Floor.still(V4, (2,)), Floor.still(C4, (0, 8)), SWAP, MIXED, PLANE, Floor.still(C3, (0, 9))):
            bar = ladders_over(floor.group)[0]
            for other in ladders_over(floor.group)[1:]:
                there, back = joined_map(other, bar), joined_map(bar, other)
                for step in range(1, len(bar)):
                    lower = [known for known in tuples_of(floor.group, step) if 0 not in known]
                    for maker in class_makers(floor, step):
                        row = tuple(maker.get(known, (0,) * floor.places) for known in lower)
                        led = led_over(other, bar, there, floor, step, row)
                        self.assertIsNone(ladder_source(other, floor, step, led))
                        again = led_over(bar, other, back, floor, step, led)
                        left = tuple(floor.subtracted(x, y) for x, y in zip(row, again))
                        self.assertIsNotNone(ladder_source(bar, floor, step, left))

    def test_into_ladders_that_are_not_exact(self):
        exact = round_ladder(C2, 1, 2)
        found = joined_map(HALF, exact)
        self.assertIs(is_joined_map(HALF, exact, found), True)
        self.refused(InvalidOperation, joined_map, exact, HALF)
        self.refused(InvalidOperation, joined_map, Ladder(C2, ((({},),),)), Ladder(C2, ((({},),),)))

    def test_wrong_arguments(self):
        one, other = round_ladder(C2, 1, 2), bar_ladder(C2, 2)
        no_ladders = WRONG + (C2, ZS)
        unlike = (round_ladder(C2, 1, 3), round_ladder(C3, 1, 2))
        for call, more in ((joined_map, ()), (is_joined_map, (None,)), (led_over, (None, None, None, None))):
            for wrong in no_ladders + unlike:
                self.refused(InvalidOperation, call, one, wrong, *more)
                self.refused(InvalidOperation, call, wrong, one, *more)
        right = joined_map(one, other)
        wrong = WRONG + ((), right[:2], right + (right[2],), list(right), (right[0], right[1], ()),
                         ((({0: 2},),),) + right[1:], ((({},),),) + right[1:], ((({0: 1, 1: 0},),),) + right[1:],
                         ((({0: True},),),) + right[1:], (right[0], (({1: 1},),), (({0: 5},),)),
                         ((({2: 1},),),) + right[1:], ((({0: 1}, {}),),) + right[1:], ([({0: 1},)],) + right[1:],
                         ((({0: TOO_LONG, 1: 1 - TOO_LONG},),),) + right[1:], C2, ZS, (right[0], right[1], None))
        for value in wrong:
            self.assertIs(is_joined_map(one, other, value), False)
            self.refused(InvalidMap, led_over, one, other, value, ZS, 1, ((0,),))
            self.refused(InvalidMap, led_over, one, other, value, None, None, None)
        self.refuse_in_order(led_over, (one, other, right, ZS, 2, ((0,),)), [
            (2, WRONG, InvalidMap), (3, NO_FLOORS + (Z3,), InvalidFloor), (4, NO_NUMBERS + (-1, 3), InvalidNumber),
            (5, WRONG + (((0,), (0,)), ((0, 0),), ((True,),), ((TOO_LONG,),), [(0,)]), InvalidRow)])
        great = bar_ladder(D4, 2)
        self.refused(TooMany, joined_map, great, great, limit=300)
        small = Ladder(D4, ((({},),), (({},),)))
        self.refused(TooMany, joined_map, small, great, limit=300)
        self.refused(TooMany, joined_map, great, small, limit=300)
        self.refused(InvalidOperation, joined_map, small, small)
        double = ((({0: 2, 1: -1},),), (({0: 2, 1: -1},),), (({1: 1},),))
        self.assertIs(is_joined_map(one, one, double), True)
        self.refused(TooMany, led_over, one, one, double, ZS, 0, ((LONGEST,),), limit=60)

    def test_not_true(self):
        # ladders that are not exact to 1, unlike widths of exact ones, and a second joined map
        self.assertIs(is_exact_to(Ladder(C2, ((({},),),)), 1), False)
        self.assertNotEqual(bar_ladder(C3, 2).widths, round_ladder(C3, 1, 2).widths)
        one = round_ladder(C2, 1, 1)
        self.assertIs(is_joined_map(one, one, ((({0: 1},),), (({0: 1},),))), True)
        self.assertIs(is_joined_map(one, one, ((({1: 1},),), (({1: 1},),))), True)
        self.assertEqual((Q8.size, E16.size), (8, 16))


if __name__ == "__main__":
    unittest.main()
