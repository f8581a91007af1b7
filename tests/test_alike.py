"""Rows alike over both sides, and rows led to one another: points 8.1 to 8.8."""

import unittest
from itertools import permutations, product

from examples import (C1, C2, C3, C4, C5, C6, D4, E8, E16, A4, LONGEST, MIXED, NO_FLOORS, NO_GROUPS, NO_NUMBERS, PLANE, Q8,
                      Refusals, S3, SIGN, SWAP, TOO_LONG, TWIST, V4, WALL, WRONG, Z2, Z3, ZS, regular, slow_change,
                      some_row, values_of, wrong_rows)
from groupsover.base.floors import Floor, is_floor_map, mapped, same_floor_maps
from groupsover.base.groups import Group
from groupsover.errors import InvalidFloor, InvalidGroup, InvalidMap, InvalidNumber, InvalidOperation, InvalidRow
from groupsover.errors import Refused, TooMany
from groupsover.laid import alike
from groupsover.laid.alike import (alike_map, is_alike_map, is_leader, is_led_paper, is_unlike_test, leaders, led_paper,
                                   led_row, led_sizes, self_maps, unlike_test)
from groupsover.laid.layings import Layering
from groupsover.rows.classes import Classes
from groupsover.rows.closed import are_one_class, class_list, class_makers, class_place, is_test
from groupsover.rows.rows import is_row, row_difference, row_sum, row_times

NINE, MORE = {(1, 2): (1,), (2, 1): (1,), (2, 2): (1,)}, {(1, 2): (2,), (2, 1): (2,), (2, 2): (2,)}
SIGN3 = Floor.made(S3, (3,), {1: ((-1,),), 2: ((-1,),)})
FLOORS = (Z2, Z3, TWIST, ZS, MIXED, SWAP, PLANE, SIGN, SIGN3, Floor.still(V4, (2,)), Floor.still(V4, (0, 4)),
          Floor.still(C4, (8,)), Floor.still(C6, (0, 6)), Floor.still(C1, (3,)), WALL)
FINITE = (Z2, Z3, TWIST, SIGN3, Floor.still(V4, (2,)), Floor.still(V4, (8,)), Floor.still(C4, (8,)), Floor.still(C4, (4,)),
          Floor.still(V4, (4, 4)), Floor.still(C1, (3,)), Floor.still(C6, (6,)), Floor.still(C3, (9,)),
          Floor.still(C2, (4, 4)), Floor.still(S3, (2,)), Floor.made(C4, (5,), {1: ((2,),)}), Floor.still(C5, (25,)),
          Floor.made(V4, (4,), {1: ((-1,),), 2: ((1,),)}), Floor.made(C4, (8,), {1: ((3,),)}),
          Floor.made(S3, (2, 2), {2: ((0, 1), (1, 0)), 3: ((0, -1), (1, -1))}), Floor.still(C3, (3, 3)))


def all_classes(floor):
    """A closed 2-row for each class, at most sixty of them."""
    rows = [{}]
    for number, maker in zip(class_list(floor, 2), class_makers(floor, 2)):
        rows = [row_sum(floor, 2, row, row_times(floor, 2, times, maker)) for row in rows for times in range(number)]
    return rows[:60]


def some_closed(floor, bound=5):
    """Some closed 2-rows, changes and others."""
    changes = [slow_change(floor, 1, some_row(floor, 1, bound, seed)) for seed in range(2)]
    rows = all_classes(floor)
    return [{}] + changes + [row_sum(floor, 2, row, changes[0]) for row in rows[1:4]]


def slow_self_maps(group):
    """All self maps, by asking all renamings of the members."""
    found = []
    for rest in permutations(range(1, group.size)):
        told = (0,) + rest
        if all(told[group.product(g, h)] == group.product(told[g], told[h]) for g in group for h in group):
            found.append(told)
    return tuple(sorted(found))


def slow_leaders(floor):
    """All leaders of a finite floor, by asking all tables at all values."""
    found, values = [], values_of(floor)
    tables = list(product(*[list(product(range(rest), repeat=floor.places)) for rest in floor.rests]))
    for table in tables:
        if not all(entry * rest % goal == 0 for row, goal in zip(table, floor.rests)
                   for entry, rest in zip(row, floor.rests)):
            continue
        led = {x: tuple(sum(a * b for a, b in zip(row, x)) % rest for row, rest in zip(table, floor.rests))
               for x in values}
        if len(set(led.values())) == len(values):
            found.extend((told, table) for told in slow_self_maps(floor.group)
                         if all(led[floor.moved(g, x)] == floor.moved(told[g], led[x])
                                for g in floor.group for x in values))
    return tuple(sorted(found))


class AlikeTest(Refusals, unittest.TestCase):
    def test_the_example(self):
        self.assertEqual([alike_map(Z3, NINE, MORE), is_led_paper(Z3, NINE, MORE, (((0, 1, 2), ((2,),)), {})),
                          led_sizes(Z3), self_maps(C4), len(self_maps(V4))],
                         [None, True, (1, 2), ((0, 1, 2, 3), (0, 3, 2, 1)), 6])

    def test_constants(self):
        self.assertEqual((alike.MAX_LED_GROUP, alike.MAX_LED_TABLES), (12, 256))

    def test_either_a_map_or_a_test(self):
        for floor in FLOORS:
            rows = some_closed(floor)[:4] + some_closed(floor, 10 ** 30)[1:2]
            for row in rows:
                for further in rows:
                    found, test = alike_map(floor, row, further), unlike_test(floor, row, further)
                    self.assertEqual(found is None, test is not None)
                    self.assertEqual(found is not None, are_one_class(floor, 2, row, further))
                    difference = row_difference(floor, 2, row, further)
                    if found is not None:
                        self.assertEqual(slow_change(floor, 1, found), difference)
                        self.assertIs(is_alike_map(floor, row, further, found), True)
                        self.assertEqual(list(found), sorted(found))
                    else:
                        self.assertTrue(is_test(floor, 2, test))
                        self.assertIs(is_unlike_test(floor, row, further, test), True)
                        self.assertIs(is_unlike_test(floor, row, row, test), False)
                    for seed in range(2):
                        value = some_row(floor, 1, 2, seed)
                        self.assertIs(is_alike_map(floor, row, further, value),
                                      slow_change(floor, 1, value) == difference)

    def test_maps_go_along_with_products(self):
        for floor in (Z2, Z3, TWIST, SIGN3):
            zero = (0,) * floor.places
            for row in some_closed(floor):
                further = row_sum(floor, 2, row, slow_change(floor, 1, some_row(floor, 1, 4, 7)))
                told = alike_map(floor, row, further)
                one, other = Layering(floor, row), Layering(floor, further)
                led = {(x, g): (floor.added(x, told.get((g,), zero)), g) for x, g in one.all_pairs()}
                for left in one.all_pairs():
                    for right in one.all_pairs():
                        self.assertEqual(led[one.joined(left, right)], other.joined(led[left], led[right]))
                for x in values_of(floor):
                    self.assertEqual(led[one.inside(x)], other.inside(x))

    def test_judged_values(self):
        for wrong in WRONG[:6] + WRONG[7:] + wrong_rows(ZS, 1) + (C2, ZS):
            self.assertIs(is_alike_map(ZS, {}, {}, wrong), False)
        for wrong in WRONG + (C2, ZS, {(1,): ((1, 2),)}, {(1, 1): ((0, 1),)}, {(1, 1): ((1, 2), (0, 1))}):
            self.assertIs(is_unlike_test(Z2, {(1, 1): (1,)}, {}, wrong), False)
        test = {(0, 0): ((1, 2),), (1, 1): ((1, 2),)}
        self.assertIs(is_unlike_test(Z2, {(1, 1): (1,)}, {}, test), True)
        self.assertIs(is_unlike_test(Z2, {}, {}, test), False)
        self.assertIs(is_unlike_test(Z2, {(1, 1): (1,)}, {}, {(1, 1): ((1, 2),)}), False)

    def test_wrong_arguments(self):
        wrongs = [(0, NO_FLOORS, InvalidFloor), (1, wrong_rows(ZS, 2), InvalidRow), (2, wrong_rows(ZS, 2), InvalidRow)]
        great, still = Floor.still(Group.round(18), (0,)), Floor.still(C2, (0,))
        for call, more in ((alike_map, ()), (is_alike_map, (None,)), (unlike_test, ()), (is_unlike_test, (None,)),
                           (led_paper, ()), (is_led_paper, (None,))):
            self.refuse_in_order(call, (ZS, {}, {}) + more, wrongs)
            if call != led_paper:
                self.refused(TooMany, call, great, {(1, 1): (1,)}, {}, *more, limit=5000)
                self.refused(InvalidRow, call, great, {(1, 1): (1,)}, {(1,): (1,)}, *more)
                self.refused(Refused, call, still, {(0, 1): (1,)}, {}, *more, reason=("open",))
                self.refused(Refused, call, still, {}, {(0, 1): (1,)}, *more, reason=("open",))
        # the rows are told ahead of what leaders refuse, and this ahead of too many tuples and open rows
        self.refused(InvalidRow, led_paper, ZS, {}, None)
        self.refused(InvalidOperation, led_paper, great, {(1, 1): (1,)}, {})
        self.refused(InvalidOperation, led_paper, ZS, {(0, 1): (1,)}, {})
        self.refused(TooMany, led_paper, Floor.still(Group.round(18), (257,)), {(1, 1): (1,)}, {}, limit=12)
        self.refused(TooMany, led_paper, Floor.still(C2, (257,)), {(0, 1): (1,)}, {}, limit=256)
        self.refused(Refused, led_paper, Floor.still(C2, (256,)), {(0, 1): (1,)}, {}, reason=("open",))
        self.refused(Refused, led_paper, Floor.still(C2, (256,)), {}, {(0, 1): (1,)}, reason=("open",))

    def test_sixty_digits(self):
        floor = Floor.still(C2, (0,))
        row = slow_change(floor, 1, {(1,): (LONGEST // 2,)})
        self.assertEqual(alike_map(floor, row, {}), {(1,): (LONGEST // 2,)})
        back = slow_change(floor, 1, {(1,): (-(LONGEST // 2),)})
        self.assertEqual(alike_map(floor, row, back), {(1,): (2 * (LONGEST // 2),)})
        # the only map is twice as far on a floor where nothing else has this change
        plane = slow_change(PLANE, 1, {(0,): (LONGEST, 0)})
        lower = slow_change(PLANE, 1, {(0,): (-LONGEST, 0)})
        self.refused(TooMany, alike_map, PLANE, plane, lower, limit=60)


class SelfMapTest(Refusals, unittest.TestCase):
    def test_all_self_maps(self):
        for group in (C1, C2, C3, C4, C5, C6, V4, S3, Group.round(7)):
            self.assertEqual(self_maps(group), slow_self_maps(group))
        for group, many in ((D4, 8), (Q8, 24), (E8, 168), (A4, 24), (Group.round(12), 4), (Group.round(11), 10),
                            (Group.both(S3, C2), 12), (Group.both(C3, C3), 48), (Group.both(C2, C4), 8)):
            found = self_maps(group)
            self.assertEqual((len(found), list(found)), (many, sorted(found)))
            for told in found:
                self.assertTrue(all(told[group.product(g, h)] == group.product(told[g], told[h])
                                    for g in group for h in group))
                self.assertEqual(sorted(told), list(group))

    def test_wrong_groups(self):
        for wrong in NO_GROUPS:
            self.refused(InvalidGroup, self_maps, wrong)
        for group in (Group.round(13), Group.round(32), E16):
            self.refused(TooMany, self_maps, group, limit=12)


class LeaderTest(Refusals, unittest.TestCase):
    def test_all_leaders(self):
        for floor in FINITE + (Floor.made(C2, (2, 8), {1: ((1, 1), (0, 1))}), Floor.still(V4, (256,)),
                               Floor.made(S3, (4, 4), {2: ((0, 1), (1, 0)), 3: ((0, -1), (1, -1))})):
            found = leaders(floor)
            if floor.group.size * floor.floor_size < 80:
                self.assertEqual(found, slow_leaders(floor))
            self.assertEqual(list(found), sorted(set(found)))
            for leader in found[:20]:
                self.assertIs(is_leader(floor, leader), True)
            still = tuple(floor.group)
            self.assertEqual([table for told, table in found if told == still], list(same_floor_maps(floor)))
        self.assertEqual(len(leaders(Floor.still(V4, (256,)))), 6 * 128)

    def test_judged_leaders(self):
        for floor in (Z2, TWIST, Floor.still(C3, (4,)), Floor.made(C4, (5,), {1: ((2,),)})):
            found = set(leaders(floor))
            tables = product(*[list(product(range(rest), repeat=floor.places)) for rest in floor.rests])
            for table in tables:
                for told in permutations(floor.group):
                    self.assertIs(is_leader(floor, (told, table)), (told, table) in found)
        # tables may have greater entries
        self.assertIs(is_leader(Z3, ((0, 2, 1), ((-1,),))), True)
        self.assertIs(is_leader(Z3, ((0, 2, 1), ((LONGEST,),))), LONGEST % 3 != 0)
        self.assertIs(is_leader(Z3, ((0, 2, 1), ((LONGEST - 1,),))), True)
        self.assertIs(is_leader(Z3, ((0, 2, 1), ((TOO_LONG,),))), False)

    def test_whole_and_mixed_floors(self):
        still = (0, 1)
        right = ((ZS, ((-1,),)), (ZS, ((1,),)), (SWAP, ((0, 1), (1, 0))), (SWAP, ((-1, 0), (0, -1))),
                 (MIXED, ((1, 0), (0, 1))), (MIXED, ((-1, 0), (1, 1))), (MIXED, ((1, 0), (2, 1))),
                 (Floor.still(C2, (0, 0)), ((1, 7), (0, 1))), (Floor.still(C2, (0, 0)), ((2, 7), (1, 4))),
                 (Floor.still(C2, (0, 4)), ((-1, 0), (3, 3))), (Floor.still(C2, (4, 0)), ((1, 2), (0, 1))))
        for floor, table in right:
            self.assertIs(is_leader(floor, (still, table)), True)
        wrong = ((ZS, ((2,),)), (ZS, ((0,),)), (SWAP, ((1, 0), (0, -1))), (SWAP, ((1, 1), (1, 1))),
                 (MIXED, ((1, 0), (1, 1))), (MIXED, ((1, 1), (0, 1))), (MIXED, ((1, 0), (0, 2))), (MIXED, ((2, 0), (0, 1))),
                 (Floor.still(C2, (0, 0)), ((2, 7), (1, 5))), (Floor.still(C2, (0, 4)), ((-1, 1), (3, 3))),
                 (Floor.still(C2, (4, 0)), ((2, 1), (0, 1))), (Floor.still(C2, (4, 0)), ((1, 2), (1, 1))))
        for floor, table in wrong:
            self.assertIs(is_leader(floor, (still, table)), False, (floor.rests, table))
        turned = Floor.made(V4, (0,), {1: ((-1,),), 2: ((1,),)})
        self.assertEqual([told for told in self_maps(V4) if is_leader(turned, (told, ((1,),)))],
                         [(0, 1, 2, 3), (0, 3, 2, 1)])
        great = Floor.still(Group.round(32), (0,))
        self.assertIs(is_leader(great, (tuple(3 * g % 32 for g in range(32)), ((-1,),))), True)
        self.assertIs(is_leader(great, (tuple(2 * g % 32 for g in range(32)), ((-1,),))), False)
        self.assertIs(is_leader(Floor.still(E8, (2,) * 12), (tuple(E8), tuple(
            tuple(int(i == j) for j in range(12)) for i in range(12)))), True)

    def test_wrong_leaders(self):
        told, table = (0, 1), ((1,),)
        wrong = WRONG + ((), (told,), (told, table, {}), [told, table], (table, told), (told, None), (None, table),
                         ([0, 1], table), (told, [(1,)]), (told, ([1],)), ((0, 0), table), ((0,), table),
                         ((0, 1, 2), table), ((1, 0), table), ((False, True), table), ((0, True), table),
                         (told, ((True,),)), (told, ((1, 0),)), (told, ((1,), (0,))), (told, ()), (told, ((),)), C2, ZS,
                         ((0, "1"), table), ((0, None), table), ((0, TOO_LONG), table))
        for value in wrong:
            self.assertIs(is_leader(ZS, value), False)
            self.refused(InvalidMap, led_row, ZS, value, 1, {})
            self.assertIs(is_led_paper(ZS, {}, {}, (value, {})), False)
        for value in wrong + ((((0, 1), ((1,),)), None), (((0, 1), ((1,),)), {(): (1,)}), (((0, 1), ((1,),)), {}, {})):
            self.assertIs(is_led_paper(ZS, {}, {}, value), False)
        self.assertIs(is_led_paper(ZS, {}, {}, (((0, 1), ((1,),)), {})), True)
        for value in NO_FLOORS:
            self.refused(InvalidFloor, is_leader, value, None)
            self.refused(InvalidFloor, leaders, value)
            self.refused(InvalidFloor, led_sizes, value)
        for call in (leaders, led_sizes):
            for floor in (ZS, MIXED, Floor.still(Group.round(13), (0, 257))):
                self.refused(InvalidOperation, call, floor)
            self.refused(TooMany, call, Floor.still(Group.round(13), (257,)), limit=12)
            for rests in ((257,), (2, 2, 2), (4, 8), (2,) * 12):
                self.refused(TooMany, call, Floor.still(Group.round(12), rests), limit=256)
        self.assertEqual(len(leaders(Floor.still(Group.round(12), (2,)))), 4)

    def test_led_rows(self):
        for floor in FINITE + (ZS, SWAP, MIXED):
            told = leaders(floor) if floor.is_finite else ((tuple(floor.group), floor.tables[1]),)
            for leader in told[::max(1, len(told) // 6)]:
                for step in range(5):
                    if floor.group.size ** (step + 2) > 1300 and step:
                        continue
                    row = some_row(floor, step, 9, step)
                    found = led_row(floor, leader, step, row)
                    wanted = {}
                    for members, value in row.items():
                        wanted[tuple(leader[0][g] for g in members)] = tuple(
                            sum(a * b for a, b in zip(line, value)) % rest if rest else
                            sum(a * b for a, b in zip(line, value)) for line, rest in zip(leader[1], floor.rests))
                    self.assertEqual(found, wanted)
                    self.assertEqual(list(found), sorted(found))
                    self.assertTrue(is_row(floor, step, found))
                    if step < 4:
                        self.assertEqual(slow_change(floor, step, found),
                                         led_row(floor, leader, step + 1, slow_change(floor, step, row)))
        leader = ((0, 1), ((1,),))
        self.refuse_in_order(led_row, (ZS, leader, 1, {}), [
            (0, NO_FLOORS, InvalidFloor), (1, WRONG, InvalidMap), (2, NO_NUMBERS + (-1, 5), InvalidNumber),
            (3, wrong_rows(ZS, 1), InvalidRow)])
        great = Floor.still(Group.round(9), (0,))
        self.refused(TooMany, led_row, great, (tuple(range(9)), ((1,),)), 3, {(1, 1, 1): (1,)}, limit=5000)
        self.assertEqual(led_row(great, (tuple(range(9)), ((-1,),)), 2, {(1, 1): (1,)}), {(1, 1): (-1,)})
        far = (((0, 1)), ((1, 1), (0, 1)))
        self.refused(TooMany, led_row, Floor.still(C2, (0, 0)), far, 1, {(1,): (LONGEST, 1)}, limit=60)
        self.assertEqual(led_row(Floor.still(C2, (0, 0)), far, 1, {(1,): (LONGEST, -1)}), {(1,): (LONGEST - 1, -1)})


class LedPaperTest(Refusals, unittest.TestCase):
    def test_papers_and_lots(self):
        for floor in FINITE:
            told, rows, classes = leaders(floor), all_classes(floor), Classes(floor, 2)
            places = {class_place(floor, 2, row): row for row in rows}
            lots, most = {}, 3000 // len(told)
            for place, row in list(places.items())[:min(12, most)]:
                lots[place] = {classes.place(led_row(floor, leader, 2, row)) for leader in told}
            for place in list(lots)[:5]:
                for goal in list(lots)[:5]:
                    changed = row_sum(floor, 2, places[goal], slow_change(floor, 1, some_row(floor, 1, 3, 4)))
                    paper = led_paper(floor, places[place], changed)
                    self.assertEqual(paper is not None, goal in lots[place])
                    if paper is not None:
                        leader, lower = paper
                        self.assertIn(leader, told)
                        led = led_row(floor, leader, 2, places[place])
                        self.assertEqual(slow_change(floor, 1, lower), row_difference(floor, 2, led, changed))
                        self.assertIs(is_led_paper(floor, places[place], changed, paper), True)
                        self.assertIs(is_led_paper(floor, places[place], changed, (leader, some_row(floor, 1, 3, 9))),
                                      slow_change(floor, 1, some_row(floor, 1, 3, 9)) == slow_change(floor, 1, lower))
            zero = class_place(floor, 2, {})
            self.assertEqual(lots[zero], {zero})
            sizes = led_sizes(floor)
            number = 1
            for size in class_list(floor, 2):
                number *= size
            self.assertEqual((sum(sizes), list(sizes)), (number, sorted(sizes)))
            if len(places) == number and len(lots) == number:
                found = {frozenset(lot) for lot in lots.values()}
                self.assertEqual(sizes, tuple(sorted(len(lot) for lot in found)))

    def test_known_lots(self):
        # pairs over four members with two values: one alone, and lots of three kinds
        self.assertEqual(led_sizes(Floor.still(V4, (2,))), (1, 1, 3, 3))
        self.assertEqual(led_sizes(Floor.still(C2, (4,))), (1, 1))
        self.assertEqual(led_sizes(Floor.still(C4, (4,))), (1, 1, 2))
        self.assertEqual(led_sizes(Floor.still(C1, (7,))), (1,))
        self.refused(TooMany, led_sizes, Floor.still(D4, (2,)), limit=300)
        self.assertEqual(led_sizes(Floor.still(Group.round(7), (7,))), (1, 6))

    def test_great_groups(self):
        floor = Floor.still(E8, (2,))
        row = {(g, h): (1,) for g in E8 for h in E8 if g & 1 and h & 1}
        further = {(g, h): (1,) for g in E8 for h in E8 if g & 4 and h & 4}
        leader, lower = led_paper(floor, row, further)
        self.assertIs(is_led_paper(floor, row, further, (leader, lower)), True)
        mixed = {(g, h): (1,) for g in E8 for h in E8 if g & 1 and h & 4}
        self.assertIsNone(led_paper(floor, row, mixed))

    def test_whole_floors_are_judged(self):
        row = {(1, 1): (1,)}
        still = Floor.still(C2, (0,))
        self.assertIs(is_led_paper(still, row, {(1, 1): (-1,)}, (((0, 1), ((-1,),)), {})), True)
        self.assertIs(is_led_paper(still, row, {(1, 1): (1,)}, (((0, 1), ((-1,),)), {})), False)
        self.assertIs(is_led_paper(still, row, {(1, 1): (1,)}, (((0, 1), ((-1,),)), {(1,): (-1,)})), True)
        self.refused(InvalidOperation, led_paper, still, row, row)

    def test_not_true(self):
        # rows that are led to one another are not alike over both
        self.assertIsNone(alike_map(Z3, NINE, MORE))
        self.assertIsNotNone(led_paper(Z3, NINE, MORE))
        # groups of pairs that are alike, of rows that are not led to one another: four and two, in unlike ways
        floor = Floor.still(Group.both(C2, C4), (2,))
        group = floor.group
        one = {(g, h): (1,) for g in group for h in group if g // 4 and h // 4}
        two = {(g, h): (1,) for g in group for h in group if g % 4 + h % 4 >= 4}
        self.assertIsNone(led_paper(floor, one, two))
        self.assertEqual(sorted(Layering(floor, one).turns(p) for p in Layering(floor, one).all_pairs()),
                         [1] + [2] * 3 + [4] * 12)
        self.assertEqual(mapped(floor, floor, ((1,),), (1,)), (1,))
        self.assertTrue(is_floor_map(floor, floor, ((1,),)))
        self.assertEqual(regular(C2, 2).places, 2)


if __name__ == "__main__":
    unittest.main()
