"""Three floors, and the endless row of their classes: points 13.1 to 13.6."""

import unittest
from itertools import product
from math import gcd

from examples import (A4, C1, C2, C3, C4, C5, C6, D4, LONGEST, MIXED, NO_NUMBERS, PLANE, Refusals, S3, SIGN, SWAP,
                      TOO_LONG, TWIST, V4, WRONG, Z2, Z3, ZS, regular, slow_change, some_row, values_of, wrong_rows)
from groupsover.base.floors import Floor, floor_sum, is_floor_map, mapped
from groupsover.base.groups import Group
from groupsover.carried.carried import joined_list
from groupsover.errors import InvalidFloor, InvalidMap, InvalidNumber, InvalidOperation, InvalidRow, Refused, TooMany
from groupsover.ladders.rounds import size_quotient
from groupsover.rows.closed import are_one_class, class_list, class_makers, is_closed, source_of
from groupsover.rows.rows import is_row, row_difference, row_sum, row_times
from groupsover.triples import three
from groupsover.triples.three import (Triple, back_to_inner, back_to_middle, back_to_outer, endless_lists,
                                      is_back_to_inner, is_back_to_middle, is_back_to_outer, is_next_row, next_row)


def times_triple(floor, number):
    """A floor of one whole place, so many times itself, and what is left."""
    group = floor.group
    rest = Floor(group, (number,), floor.tables)
    return Triple((floor, floor, rest), (((number,),), ((1,),)))


def rest_triple(group, rest, tables=None):
    """A rest in its square."""
    tables = tables or (((1,),),) * group.size
    one, both = Floor(group, (rest,), tables), Floor(group, (rest * rest,), tables)
    return Triple((one, both, one), (((rest,),), ((1,),)))


def split_triple(one, other):
    """One floor beside another one."""
    unit = [tuple(int(k == j) for k in range(one.places)) for j in range(one.places)]
    last = [tuple(int(k == j) for k in range(other.places)) for j in range(other.places)]
    inward = tuple(row for row in unit) + ((0,) * one.places,) * other.places
    outward = tuple((0,) * one.places + row for row in last)
    return Triple((one, floor_sum(one, other), other), (inward, outward))


def spread_triple(group):
    """The integers in the floor with a place for each member, and what is left."""
    middle, size = regular(group, 0), group.size
    still = Floor.still(group, (0,))
    outward = tuple(tuple(int(k == j) - int(k == size - 1) for k in range(size)) for j in range(size - 1))
    units = [tuple(int(k == j) for k in range(size)) for j in range(size - 1)]
    tables = []
    for member in group:
        columns = [[sum(a * b for a, b in zip(row, middle.moved(member, unit))) for row in outward] for unit in units]
        tables.append(tuple(zip(*columns)))
    return Triple((still, middle, Floor(group, (0,) * (size - 1), tuple(tables))), (((1,),) * size, outward))


TRIPLES = (
    times_triple(Floor.still(C2, (0,)), 2), times_triple(ZS, 2), times_triple(ZS, 4), times_triple(SIGN, 6),
    times_triple(Floor.still(C3, (0,)), 3), times_triple(Floor.still(V4, (0,)), 2), times_triple(Floor.still(C4, (0,)), 4),
    times_triple(Floor.still(C2, (0,)), 3), rest_triple(C2, 2), rest_triple(C3, 3), rest_triple(V4, 2), rest_triple(C4, 2),
    rest_triple(S3, 3, SIGN.tables), rest_triple(C1, 5), rest_triple(C2, 3), rest_triple(S3, 2),
    split_triple(Z2, ZS), split_triple(MIXED, TWIST), split_triple(Z3, PLANE), spread_triple(C2), spread_triple(C3),
    Triple((ZS, SWAP, Floor.still(C2, (0,))), (((1,), (-1,)), ((1, 1),))),
    # a whole floor in a mixed one, with a rest left; and a rest in a mixed floor, with a whole one left
    Triple((Floor.still(C2, (0,)), Floor.still(C2, (0, 2)), Floor.still(C2, (4,))), (((2,), (1,)), ((1, 2),))),
    Triple((Floor.still(C2, (4,)), MIXED, ZS), (((0,), (1,)), ((1, 0),))),
    Triple((Floor.still(C2, (2,)), TWIST, Floor.still(C2, (2, 2))), (((0,), (2,)), ((1, 0), (0, 1)))),
)
FINITE = tuple(triple for triple in TRIPLES if all(floor.is_finite for floor in triple.three_floors))
HALVES = TRIPLES[0]


def steps_for(triple, most):
    """The steps whose changes have at most so many tuples."""
    return [step for step in range(5) if triple.three_floors[0].group.size ** (step + 1) <= most]


def has_list(floor, step):
    """Whether classes can be told."""
    return (floor.group.size - 1) ** (step + 1) * floor.places <= 300


def closed_rows(floor, step, seeds=(1, 2)):
    """Some closed rows."""
    if step == 0:
        zero = (0,) * floor.places
        total = {}
        for seed in seeds:
            value = some_row(floor, 0, 9, seed).get((), zero)
            led = zero
            for member in floor.group:
                led = floor.added(led, floor.moved(member, value))
            total[seed] = {(): led} if any(led) else {}
        fixed = [x for x in product(range(-2, 3), repeat=floor.places)] if floor.places < 3 else []
        fixed = [tuple(entry % rest if rest else entry for entry, rest in zip(x, floor.rests)) for x in fixed]
        fixed = [x for x in fixed if any(x) and all(floor.moved(g, x) == x for g in floor.group)]
        return [{}] + [{(): x} for x in fixed[:4]] + list(total.values())
    found = [{}]
    for seed in seeds:
        row = slow_change(floor, step - 1, some_row(floor, step - 1, 5, seed))
        found.append(row)
        if has_list(floor, step):
            for times, maker in enumerate(class_makers(floor, step), seed):
                row = row_sum(floor, step, row, row_times(floor, step, times, maker))
                found.append(row)
    return found


def is_a_change(floor, step, row):
    """Whether a closed row is a change, or 0 for the step 0."""
    return source_of(floor, step, row) is not None if step else not row


class TripleTest(Refusals, unittest.TestCase):
    def test_constants(self):
        self.assertEqual(three.MOST_ENDLESS, 3)

    def test_exact_by_all_values(self):
        # all pairs of maps of small finite floors
        floors = [Floor.still(C2, rests) for rests in ((2,), (4,), (2, 2), (8,), (2, 4))] + [TWIST, Floor.still(C2, (3,))]
        asked = 0
        for one, middle, last in product(floors, repeat=3):
            if middle.places * (one.places + last.places) > 4:
                continue
            for inward, outward in product(self.maps(one, middle), self.maps(middle, last)):
                place = self.slow_place((one, middle, last), inward, outward)
                if place is None:
                    asked += 1
                    self.assertEqual(Triple((one, middle, last), (inward, outward)).two_maps, (inward, outward))
                else:
                    self.refused(Refused, Triple, (one, middle, last), (inward, outward), reason=("exact", place))
        self.assertGreater(asked, 10)

    def maps(self, one, other):
        """All maps with least entries."""
        rows = [list(product(range(rest), repeat=one.places)) for rest in other.rests]
        return [table for table in product(*rows) if is_floor_map(one, other, table)]

    def slow_place(self, floors, inward, outward):
        """The first place at which three finite floors are not exact."""
        one, middle, last = floors
        led = [mapped(one, middle, inward, x) for x in values_of(one)]
        gone = [x for x in values_of(middle) if not any(mapped(middle, last, outward, x))]
        out = {mapped(middle, last, outward, x) for x in values_of(middle)}
        if len(set(led)) < len(led):
            return 0
        if set(led) != set(gone):
            return 1
        return None if len(out) == last.floor_size else 2

    def test_exact_at_whole_places(self):
        still, rest = Floor.still(C2, (0,)), Floor.still(C2, (4,))
        for floors, tables, place in (
                ((still, still, still), (((0,),), ((1,),)), 0), ((still, still, rest), (((2,),), ((1,),)), 1),
                ((still, still, rest), (((8,),), ((1,),)), 1), ((still, still, rest), (((4,),), ((2,),)), 1),
                ((still, still, still), (((1,),), ((1,),)), 1), ((rest, rest, still), (((1,),), ((0,),)), 2),
                ((still, still, still), (((1,),), ((0,),)), 2), ((still, still, rest), (((2,),), ((2,),)), 2),
                ((ZS, SWAP, still), (((1,), (-1,)), ((2, 2),)), 2), ((ZS, SWAP, still), (((2,), (-2,)), ((1, 1),)), 1),
                ((still, rest, rest), (((1,),), ((0,),)), 0), ((rest, MIXED, ZS), (((0,), (2,)), ((1, 0),)), 0),
                ((rest, MIXED, ZS), (((0,), (1,)), ((2, 0),)), 2),
                ((Floor.still(C2, (2,)), MIXED, ZS), (((0,), (2,)), ((1, 0),)), 1)):
            self.refused(Refused, Triple, floors, tables, reason=("exact", place))
        self.assertEqual(str(Triple((still, still, rest), (((-4,),), ((3,),)))), "triple of 1, 1 and 1 places over 2 members")
        for number in (LONGEST, 10 ** 59 + 7):
            far = Floor.still(C2, (0, 0))
            triple = Triple((still, far, still), (((1,), (number,)), ((number, -1),)))
            self.assertEqual(triple.led_in(0, {(): (1,)}), {(): (1, number)})

    def test_wrong_floors_and_maps(self):
        still, rest = Floor.still(C2, (0,)), Floor.still(C2, (2,))
        right = ((still, still, rest), (((2,),), ((1,),)))
        no_floors = WRONG + ((), (still,), (still, still), (still,) * 4, [still, still, rest], (still, None, rest), C2,
                             (still, Floor.still(C3, (0,)), rest), (Floor.still(C1, (0,)), still, rest), (still, C2, rest))
        no_maps = WRONG + ((), right[1][:1], right[1] * 2, list(right[1]), (((2,),), ((1, 0),)), (((2,),), ((True,),)),
                           (((2,),), None), (None, ((1,),)), (((2, 0),), ((1,),)), ([(2,)], ((1,),)), still,
                           (((2,), (0,)), ((1,),)), (((TOO_LONG,),), ((1,),)), ((), ((1,),)))
        self.refuse_in_order(Triple, right, [(0, no_floors, InvalidFloor), (1, no_maps, InvalidMap)])
        self.refused(InvalidMap, Triple, (ZS, still, rest), (((2,),), ((1,),)))
        # a map of whole numbers out of rests
        self.refused(InvalidMap, Triple, (rest, still, rest), (((2,),), ((1,),)))

    def test_what_it_keeps(self):
        for triple in TRIPLES:
            again = Triple(triple.three_floors, triple.two_maps)
            self.assertTrue(triple == again)
            self.assertFalse(triple != again)
        self.assertFalse(TRIPLES[0] == TRIPLES[1])
        self.assertFalse(HALVES == Triple(HALVES.three_floors, (((-2,),), ((1,),))))
        for other in WRONG + (C2, ZS, HALVES.three_floors):
            self.assertFalse(HALVES == other)
            self.assertTrue(HALVES != other)
        self.assertEqual(str(spread_triple(C3)), "triple of 1, 3 and 2 places over 3 members")
        self.assertEqual(HALVES.two_maps, (((2,),), ((1,),)))
        with self.assertRaises(TypeError):
            iter(HALVES)

    def test_rows_led_and_back(self):
        for triple in TRIPLES:
            one, middle, last = triple.three_floors
            inward, outward = triple.two_maps
            for step in steps_for(triple, 80):
                row = some_row(one, step, 9, 1)
                found = triple.led_in(step, row)
                self.assertEqual(found, {members: mapped(one, middle, inward, value) for members, value in row.items()})
                self.assertEqual(triple.pulled(step, found), row)
                self.assertEqual(triple.led_out(step, found), {})
                row = some_row(middle, step, 9, 2)
                led = triple.led_out(step, row)
                wanted = {members: mapped(middle, last, outward, value) for members, value in row.items()}
                self.assertEqual(led, {members: wanted[members] for members in wanted if any(wanted[members])})
                back = triple.pulled(step, row)
                self.assertEqual(back is not None, led == {})
                if back is not None:
                    self.assertEqual(triple.led_in(step, back), row)
                for bound in (9, 10 ** 40):
                    row = some_row(last, step, bound, 3)
                    lifted = triple.lifted(step, row)
                    self.assertTrue(is_row(middle, step, lifted))
                    self.assertEqual(triple.led_out(step, lifted), row)
                    self.assertEqual(list(lifted), sorted(lifted))
                if step < 4 and triple.three_floors[0].group.size ** (step + 2) <= 80:
                    self.assertEqual(triple.led_in(step + 1, slow_change(one, step, some_row(one, step, 9, 1))),
                                     slow_change(middle, step, triple.led_in(step, some_row(one, step, 9, 1))))

    def test_wrong_rows(self):
        no_steps = NO_NUMBERS + (-1, 5)
        triple = TRIPLES[12]
        for at, call in enumerate((triple.led_in, triple.led_out, triple.lifted, triple.pulled)):
            floor = triple.three_floors[(0, 1, 2, 1)[at]]
            self.refuse_in_order(call, (1, {}), [(0, no_steps, InvalidNumber), (1, wrong_rows(floor, 1), InvalidRow)])
            great = times_triple(Floor.still(Group.round(9), (0,)), 2)
            told = (great.led_in, great.led_out, great.lifted, great.pulled)[at]
            self.refused(TooMany, told, 3, {(1, 1, 1): (1,)}, limit=5000)
            self.refused(InvalidRow, told, 3, {(1, 1): (1,)})
        self.refused(TooMany, HALVES.led_in, 1, {(1,): (LONGEST,)}, limit=60)
        self.assertEqual(HALVES.led_in(1, {(1,): (LONGEST // 2,)}), {(1,): (2 * (LONGEST // 2),)})
        self.assertEqual(HALVES.pulled(1, {(1,): (LONGEST - 1,)}), {(1,): ((LONGEST - 1) // 2,)})
        self.assertIsNone(HALVES.pulled(1, {(0,): (2,), (1,): (LONGEST,)}))


class EndlessRowTest(Refusals, unittest.TestCase):
    def test_next_rows(self):
        for triple in TRIPLES:
            one, middle, last = triple.three_floors
            for step in [step for step in steps_for(triple, 300) if one.group.size ** (step + 2) <= 300]:
                if step > 3:
                    continue
                rows = closed_rows(last, step)
                found = [next_row(triple, step, row) for row in rows]
                for row, told in zip(rows, found):
                    self.assertTrue(is_closed(one, step + 1, told))
                    # led in, it is the change of a row that is led to the row, but for a change led in
                    left = row_difference(middle, step + 1, triple.led_in(step + 1, told),
                                          slow_change(middle, step, triple.lifted(step, row)))
                    self.assertIsNotNone(source_of(one, step + 1, triple.pulled(step + 1, left)))
                    further = row_sum(one, step + 1, told, slow_change(one, step, some_row(one, step, 5, 8)))
                    self.assertIs(is_next_row(triple, step, row, told), True)
                    self.assertIs(is_next_row(triple, step, row, further), True)
                    if step:
                        # it hangs on the class alone
                        like = row_sum(last, step, row, slow_change(last, step - 1, some_row(last, step - 1, 5, 9)))
                        self.assertIs(is_next_row(triple, step, like, told), True)
                for row in rows[:4]:
                    for other, told in zip(rows, found):
                        wanted = are_one_class(one, step + 1, told, next_row(triple, step, row))
                        self.assertIs(is_next_row(triple, step, row, told), wanted)
                for wrong in (None, True, [], "a", (), {(1,) * step: (1,)}, {(0,) * (step + 2): (1,)}, C2):
                    self.assertIs(is_next_row(triple, step, {}, wrong), False)

    def test_where_rows_come_from(self):
        for triple in TRIPLES:
            for step in steps_for(triple, 300):
                self.look_at_middle(triple, step)
                self.look_at_outer(triple, step)
                self.look_at_inner(triple, step)

    def look_at_middle(self, triple, step):
        one, middle, last = triple.three_floors
        if step > 3 or one.group.size ** (step + 2) > 1300:
            return
        for row in closed_rows(last, step):
            found = back_to_middle(triple, step, row)
            told = next_row(triple, step, row)
            self.assertEqual(found is not None, source_of(one, step + 1, told) is not None)
            if found is not None:
                first, left = found
                self.assertTrue(is_closed(middle, step, first) if step else not slow_change(middle, 0, first))
                self.look_at_left(last, step, row, triple.led_out(step, first), left)
                self.assertIs(is_back_to_middle(triple, step, row, found), True)
                self.assertIs(is_back_to_middle(triple, step, row, list(found)), False)
                self.assertIs(is_back_to_middle(triple, step, row, (first, None)), False)
                self.assertIs(is_back_to_middle(triple, step, row, (first,)), False)
                if row and step:
                    self.assertIs(is_back_to_middle(triple, step, row, ({}, {})), False)

    def look_at_outer(self, triple, step):
        one, middle, last = triple.three_floors
        if not step:
            return
        for row in closed_rows(one, step):
            found = back_to_outer(triple, step, row)
            self.assertEqual(found is not None, source_of(middle, step, triple.led_in(step, row)) is not None)
            if found is not None:
                first, told, left = found
                self.assertEqual(slow_change(last, step - 1, first), {})
                self.assertIs(is_next_row(triple, step - 1, first, told), True)
                self.look_at_left(one, step, row, told, left)
                self.assertIs(is_back_to_outer(triple, step, row, found), True)
                self.assertIs(is_back_to_outer(triple, step, row, found[:2]), False)
                self.assertIs(is_back_to_outer(triple, step, row, (None, told, left)), False)
                self.assertIs(is_back_to_outer(triple, step, row, (first, None, left)), False)
                lower = some_row(one, step - 1, 5, 3)
                moved = row_difference(one, step, told, slow_change(one, step - 1, lower))
                self.assertIs(is_back_to_outer(triple, step, row, (first, moved, lower)), left == {})

    def look_at_inner(self, triple, step):
        one, middle, last = triple.three_floors
        for row in closed_rows(middle, step):
            found = back_to_inner(triple, step, row)
            self.assertEqual(found is not None, is_a_change(last, step, triple.led_out(step, row)))
            if found is not None:
                first, left = found
                self.assertEqual(slow_change(one, step, first), {})
                self.look_at_left(middle, step, row, triple.led_in(step, first), left)
                self.assertIs(is_back_to_inner(triple, step, row, found), True)
                self.assertIs(is_back_to_inner(triple, step, row, found + ({},)), False)
                self.assertIs(is_back_to_inner(triple, step, row, (None, left)), False)

    def look_at_left(self, floor, step, row, led, left):
        """The change of the last row is what the row is more than what comes of the first one."""
        difference = row_difference(floor, step, row, led)
        self.assertEqual(slow_change(floor, step - 1, left) if step else left, difference)
        if not step:
            self.assertEqual((left, difference), ({}, {}))

    def test_judged_values(self):
        for wrong in WRONG + (C2, (None, None), ({}, None), (None, {}), ({(1,): (1,)}, {}), ({}, {(): (1,)}), ({},)):
            self.assertIs(is_back_to_middle(HALVES, 1, {(1,): (1,)}, wrong), False)
            self.assertIs(is_back_to_inner(HALVES, 2, {(1, 1): (2,)}, wrong), False)
            self.assertIs(is_back_to_outer(HALVES, 2, {(1, 1): (1,)}, wrong), False)
        # in the step 0 the last row is {}
        self.assertIs(is_back_to_inner(HALVES, 0, {(): (4,)}, ({(): (2,)}, {})), True)
        self.assertIs(is_back_to_inner(HALVES, 0, {(): (4,)}, ({(): (1,)}, {})), False)
        self.assertIs(is_back_to_inner(HALVES, 0, {(): (4,)}, ({(): (2,)}, ())), False)
        self.assertIs(is_back_to_inner(HALVES, 0, {(): (4,)}, ({(): (2,)}, {(): (1,)})), False)
        self.assertIs(is_back_to_middle(HALVES, 0, {(): (1,)}, ({(): (5,)}, {})), True)
        self.assertIs(is_back_to_middle(HALVES, 0, {(): (1,)}, ({(): (4,)}, {})), False)
        self.assertIs(is_back_to_outer(HALVES, 2, {(1, 1): (1,)}, ({(1,): (1,)}, {(1, 1): (1,)}, {})), True)
        self.assertIs(is_back_to_outer(HALVES, 2, {(1, 1): (1,)}, ({(1,): (1,)}, {(1, 1): (-1,)}, {(1,): (1,)})), True)
        self.assertIs(is_back_to_outer(HALVES, 2, {(1, 1): (1,)}, ({}, {}, {(1,): (1,)})), False)

    def test_great_integers(self):
        # rows near the longest integers come from short rows, or are refused
        for triple in (HALVES, TRIPLES[2], TRIPLES[3], TRIPLES[21], TRIPLES[23]):
            one, middle, last = triple.three_floors
            for step in (1, 2):
                for floor, call, judge in ((last, back_to_middle, is_back_to_middle),
                                           (one, back_to_outer, is_back_to_outer),
                                           (middle, back_to_inner, is_back_to_inner)):
                    row = slow_change(floor, step - 1, some_row(floor, step - 1, 10 ** 59, 4))
                    found = call(triple, step, row)
                    self.assertIs(judge(triple, step, row, found), True)
                row = slow_change(last, step - 1, some_row(last, step - 1, 10 ** 59, 5))
                self.assertIs(is_next_row(triple, step, row, next_row(triple, step, row)), True)

    def test_rows_of_which_what_is_found_first_is_too_long(self):
        asked = 0
        still = Floor.still(C2, (0,))
        far = Triple((still, Floor.made(C2, (0, 0), {1: ((1, 10 ** 30), (0, -1))}), ZS), (((1,), (0,)), ((0, 1),)))
        near = Triple((ZS, Floor.made(C2, (0, 0), {1: ((-1, 10 ** 30 + 1), (0, 1))}), still), (((1,), (0,)), ((0, 1),)))
        for step in (1, 2, 3):
            for triple in (far, near):
                one, middle, last = triple.three_floors
                for maker in class_makers(last, step) + ({},):
                    row = row_sum(last, step, maker, slow_change(last, step - 1, some_row(last, step - 1, 10 ** 40, 5)))
                    found = next_row(triple, step, row)
                    self.assertTrue(is_row(one, step + 1, found))
                    self.assertIs(is_next_row(triple, step, row, found), True)
                    if source_of(one, step + 1, found) is not None:
                        self.assertIs(is_back_to_middle(triple, step, row, back_to_middle(triple, step, row)), True)
        for triple in (TRIPLES[21], spread_triple(C2), spread_triple(C3), split_triple(ZS, SWAP), times_triple(ZS, 2)):
            one, middle, last = triple.three_floors
            for step in (1, 2):
                for seed in range(6):
                    for floor, call, judge in ((last, back_to_middle, is_back_to_middle),
                                               (one, back_to_outer, is_back_to_outer),
                                               (middle, back_to_inner, is_back_to_inner)):
                        row = slow_change(floor, step - 1, some_row(floor, step - 1, LONGEST // 3, seed))
                        if is_row(floor, step, row):
                            asked += 1
                            self.assertIs(judge(triple, step, row, call(triple, step, row)), True)
                    row = slow_change(last, step - 1, some_row(last, step - 1, LONGEST // 3, seed))
                    if is_row(last, step, row):
                        found = next_row(triple, step, row)
                        self.assertTrue(is_row(one, step + 1, found))
                        self.assertIs(is_next_row(triple, step, row, found), True)
        self.assertGreater(asked, 100)

    def test_wrong_arguments(self):
        triple = TRIPLES[12]
        one, middle, last = triple.three_floors
        no_triples = WRONG + (C2, ZS, triple.three_floors)
        for call, floor, steps, more in (
                (next_row, last, (4,), ()), (is_next_row, last, (4,), (None,)), (back_to_middle, last, (4,), ()),
                (is_back_to_middle, last, (4,), (None,)), (back_to_outer, one, (0,), ()),
                (is_back_to_outer, one, (0,), (None,)), (back_to_inner, middle, (), ()),
                (is_back_to_inner, middle, (), (None,))):
            self.refuse_in_order(call, (triple, 1, {}) + more, [
                (0, no_triples, InvalidOperation), (1, NO_NUMBERS + (-1, 5) + steps, InvalidNumber),
                (2, wrong_rows(floor, 1), InvalidRow)])
            self.refused(Refused, call, triple, 1, {(1,): (1,)}, *more, reason=("open",))
            great = times_triple(Floor.still(Group.round(18), (0,)), 2)
            self.refused(TooMany, call, great, 2, {(1, 1): (1,)}, *more, limit=5000)
            self.refused(InvalidRow, call, great, 2, {(1,): (1,)}, *more)
        # the step of the next row is the greatest one
        edge = times_triple(Floor.still(Group.round(17), (0,)), 2)
        over = times_triple(Floor.still(Group.round(18), (0,)), 2)
        for call, more in ((next_row, ()), (is_next_row, (None,)), (back_to_middle, ())):
            self.refused(TooMany, call, over, 1, {(1,): (1,)}, *more, limit=5000)
            self.refused(Refused, call, edge, 1, {(1,): (1,)}, *more, reason=("open",))
        for call, more in ((back_to_outer, ()), (back_to_inner, ())):
            self.refused(Refused, call, over, 1, {(1,): (1,)}, *more, reason=("open",))
        self.assertEqual(next_row(edge, 1, {}), {})
        for wrong in no_triples:
            self.refused(InvalidOperation, endless_lists, wrong, 9)
        for wrong in NO_NUMBERS + (-1, 4):
            self.refused_number(endless_lists, wrong, triple, wrong)


class ListsTest(Refusals, unittest.TestCase):
    def test_lists(self):
        for triple in TRIPLES:
            for number in range(4):
                if all(has_list(floor, number) for floor in triple.three_floors):
                    found = endless_lists(triple, number)
                    self.assertEqual(found, tuple(tuple(class_list(floor, step) for floor in triple.three_floors)
                                                  for step in range(number + 1)))
                else:
                    self.refused(TooMany, endless_lists, triple, number, limit=300)

    def test_products_of_lists(self):
        for triple in FINITE:
            one, middle, last = triple.three_floors
            changes = {}
            for step in range(4):
                if not all(has_list(floor, step) for floor in triple.three_floors):
                    break
                sizes = []
                for told in endless_lists(triple, step)[step]:
                    number = 1
                    for size in told:
                        number *= size
                    sizes.append(number)
                self.assertEqual(sizes[0] * sizes[2] % sizes[1], 0)
                if one.group.size ** (step + 2) <= 300 and step < 4 and has_list(last, max(step, 1)):
                    rows = class_makers(last, step) if step else [{(): x} for x in values_of(last) if any(x) and all(
                        last.moved(g, x) == x for g in last.group)]
                    changes[step] = all(source_of(one, step + 1, next_row(triple, step, row)) is not None for row in rows)
                    if changes[step] and (step == 0 or changes.get(step - 1)):
                        self.assertEqual(sizes[1], sizes[0] * sizes[2])

    def test_sizes_without_common_divisor(self):
        for triple in (rest_triple(C2, 3), rest_triple(C4, 3), rest_triple(C3, 2), rest_triple(S3, 5),
                       Triple((Floor.still(C2, (3,)), Floor.still(C2, (6,)), Z2), (((2,),), ((1,),)))):
            one, _, last = triple.three_floors
            self.assertEqual(gcd(one.floor_size, one.group.size), 1)
            for step in steps_for(triple, 40):
                for row in closed_rows(last, step):
                    if step < 4:
                        self.assertIsNotNone(source_of(one, step + 1, next_row(triple, step, row)))

    def test_quotients_are_multiplied(self):
        for triple in TRIPLES:
            if triple.three_floors[0].group in (C2, C3, C4, C1, C5, C6):
                one, middle, last = [size_quotient(floor) for floor in triple.three_floors]
                self.assertEqual(middle[0] * one[1] * last[1], middle[1] * one[0] * last[0])

    def test_not_true(self):
        # a closed row of the last floor that comes of no closed row of the middle one
        row = {(1,): (1,)}
        self.assertIsNone(back_to_middle(HALVES, 1, row))
        self.assertEqual(next_row(HALVES, 1, row), {(1, 1): (1,)})
        # the list of the middle is not that of both others, put together
        told = endless_lists(HALVES, 1)[1]
        self.assertNotEqual(joined_list(told[0], told[2]), told[1])
        # a next row does not hang on the row alone
        further = slow_change(HALVES.three_floors[0], 1, {(1,): (1,)})
        self.assertIs(is_next_row(HALVES, 1, row, row_sum(HALVES.three_floors[0], 2, {(1, 1): (1,)}, further)), True)
        self.assertEqual((D4.size, A4.size), (8, 12))


if __name__ == "__main__":
    unittest.main()
