"""Products of rows: points 14.1 to 14.7."""

import unittest
from itertools import product

from examples import (C1, C2, C3, C4, C5, C6, LONGEST, MIXED, NO_FLOORS, NO_NUMBERS, PLANE, Refusals, S3, SIGN, SWAP,
                      TOO_LONG, TWIST, V4, WALL, WRONG, Z2, Z3, ZS, regular, slow_change, some_row, tuples_of, wrong_rows,
                      wrong_values)
from groupsover.base.floors import Floor, seen_floor
from groupsover.base.groups import Group, group_parts
from groupsover.errors import InvalidFloor, InvalidNumber, InvalidOperation, InvalidRow, InvalidTable, Refused, TooMany
from groupsover.ladders.rounds import maker_of
from groupsover.products import products
from groupsover.products.products import (is_pairing, is_turned_source, pairing_value, product_row, turned,
                                          turned_source)
from groupsover.rows.closed import are_one_class, class_list, class_makers, class_order, is_closed, source_of
from groupsover.rows.rows import is_row, row_difference, row_sum, row_times
from groupsover.seen.parts import carried_back, seen_row

ONE = (((1,),),)


def line(group):
    """The floor of the integers, still."""
    return Floor.still(group, (0,))


def dot(many):
    """The pairing of two values place by place, added up."""
    return (tuple(tuple(int(i == j) for j in range(many)) for i in range(many)),)


def each(many):
    """The pairing of two values place by place."""
    return tuple(tuple(tuple(int(i == j == k) for j in range(many)) for i in range(many)) for k in range(many))


def scale(many):
    """The pairing of an integer and a value."""
    return tuple((tuple(int(j == k) for j in range(many)),) for k in range(many))


R2, R3 = regular(C2, 0), regular(C3, 0)
# three floors, and a pairing of the first and the second one into the third one
CASES = (
    (line(C2), line(C2), line(C2), ONE), (ZS, ZS, line(C2), ONE), (ZS, line(C2), ZS, (((3,),),)), (Z2, Z2, Z2, ONE),
    (R2, R2, line(C2), dot(2)), (R2, R2, R2, each(2)), (R2, ZS, line(C2), (((1,), (-1,)),)), (line(C2), MIXED, MIXED, scale(2)),
    (ZS, Floor.still(C2, (4,)), Floor.made(C2, (4,), {1: ((-1,),)}), ONE), (line(C2), TWIST, TWIST, scale(2)),
    (Floor.still(C2, (4,)), Floor.still(C2, (2,)), Floor.still(C2, (4,)), (((2,),),)),
    (line(C3), PLANE, PLANE, scale(2)), (R3, R3, line(C3), dot(3)), (Z3, Z3, Z3, ONE), (R3, Z3, regular(C3, 3), (
        ((1,), (0,), (0,)), ((0,), (1,), (0,)), ((0,), (0,), (1,)))),
    (line(V4), Floor.still(V4, (4,)), Floor.still(V4, (2,)), ONE), (Floor.still(V4, (2,)),) * 3 + (ONE,),
    (line(C4), Floor.still(C4, (8,)), Floor.still(C4, (4,)), ONE), (line(S3), WALL, WALL, scale(2)), (SIGN, SIGN, line(S3), ONE),
    (SIGN, line(S3), SIGN, ONE), (Floor.still(S3, (3,)), SIGN, Floor.made(S3, (3,), {1: ((-1,),), 2: ((-1,),)}), ONE),
    (line(C1), Floor.still(C1, (5,)), Floor.still(C1, (5,)), ONE))


def slow_value(third, pairing, x, y):
    """The value of a pairing, by its words."""
    found = []
    for table, rest in zip(pairing, third.rests):
        total = sum(table[i][j] * x[i] * y[j] for i in range(len(x)) for j in range(len(y)))
        found.append(total % rest if rest else total)
    return tuple(found)


def slow_product(one, other, third, pairing, p, f, q, h):
    """The product of two rows, by its words."""
    group, found = third.group, {}
    for members in tuples_of(group, p + q):
        member = 0
        for further in members[:p]:
            member = group.product(member, further)
        x, y = f.get(members[:p]), h.get(members[p:])
        if x and y:
            value = slow_value(third, pairing, x, other.moved(member, y))
            if any(value):
                found[members] = value
    return found


def steps_for(group, most):
    """The pairs of steps whose products have at most so many tuples."""
    return [(p, q) for p in range(5) for q in range(5) if p + q < 5 and group.size ** (p + q + 1) <= most]


def some_closed(floor, step, seed):
    """A closed row: a change, and some of the makers."""
    if step == 0:
        total = (0,) * floor.places
        for member in floor.group:
            total = floor.added(total, floor.moved(member, some_row(floor, 0, 9, seed).get((), total)))
        value = some_row(floor, 0, 9, seed).get((), (0,) * floor.places)
        total = (0,) * floor.places
        for member in floor.group:
            total = floor.added(total, floor.moved(member, value))
        return {(): total} if any(total) else {}
    row = slow_change(floor, step - 1, some_row(floor, step - 1, 5, seed))
    if (floor.group.size - 1) ** (step + 1) * floor.places <= 300:
        for times, maker in enumerate(class_makers(floor, step), seed):
            row = row_sum(floor, step, row, row_times(floor, step, times, maker))
    return row


class PairingTest(Refusals, unittest.TestCase):
    def test_the_example(self):
        two = Floor.still(Group.round(2), (2,))
        step = {(1,): (1,)}
        self.assertEqual([is_pairing(two, two, two, ONE), product_row(two, two, two, ONE, 1, step, 1, step),
                          pairing_value(two, two, two, ONE, (1,), (1,)), is_pairing(two, two, two, ONE * 2)],
                         [True, {(1, 1): (1,)}, (1,), False])

    def test_constants(self):
        self.assertEqual(products.MOST_STEPS, 4)

    def test_values(self):
        for one, other, third, pairing in CASES:
            self.assertIs(is_pairing(one, other, third, pairing), True)
            for seed in range(4):
                x = some_row(one, 0, 9, seed).get((), (0,) * one.places)
                y = some_row(other, 0, 9, seed + 9).get((), (0,) * other.places)
                value = pairing_value(one, other, third, pairing, x, y)
                self.assertEqual(value, slow_value(third, pairing, x, y))
                for member in third.group:
                    self.assertEqual(pairing_value(one, other, third, pairing, one.moved(member, x), other.moved(member, y)),
                                     third.moved(member, value))
                back = turned(one, other, third, pairing)
                self.assertIs(is_pairing(other, one, third, back), True)
                self.assertEqual(pairing_value(other, one, third, back, y, x), value)
                self.assertEqual(turned(other, one, third, back), pairing)
        self.assertEqual(turned(R2, ZS, line(C2), (((1,), (-1,)),)), (((1, -1),),))

    def test_pairings_by_all_values(self):
        floors = (Z2, Floor.still(C2, (4,)), Floor.made(C2, (4,), {1: ((-1,),)}), Floor.still(C2, (3,)), TWIST)
        for one, other, third in product(floors, repeat=3):
            if one.places * other.places * third.places > 2:
                continue
            rows = [list(product(product(range(rest), repeat=other.places), repeat=one.places)) for rest in third.rests]
            for pairing in product(*rows):
                wanted = all(pairing[k][i][j] * one.rests[i] % rest == 0 and pairing[k][i][j] * other.rests[j] % rest == 0
                             for k, rest in enumerate(third.rests) for i in range(one.places)
                             for j in range(other.places))
                wanted = wanted and all(
                    slow_value(third, pairing, one.moved(g, x), other.moved(g, y))
                    == third.moved(g, slow_value(third, pairing, x, y))
                    for g in C2 for x in product(range(2), repeat=one.places) for y in product(range(2), repeat=other.places))
                self.assertIs(is_pairing(one, other, third, pairing), wanted)

    def test_judged_values(self):
        wrong = WRONG + ((), ((),), (((),),), ((1,),), (1,), [((1,),)], ([(1,)],), (([1],),), (((True,),),), (((1, 0),),),
                         (((1,), (0,)),), ONE * 2, (((TOO_LONG,),),), ((("1",),),), (((None,),),), C2, ZS, ((((1,),),),))
        for value in wrong:
            self.assertIs(is_pairing(ZS, ZS, line(C2), value), False)
            self.refused(InvalidTable, pairing_value, ZS, ZS, line(C2), value, None, None)
            self.refused(InvalidTable, turned, ZS, ZS, line(C2), value)
        # members of the group do not go along, or rests are not kept
        self.assertIs(is_pairing(ZS, ZS, ZS, ONE), False)
        self.assertIs(is_pairing(ZS, ZS, line(C2), (((LONGEST,),),)), True)
        self.assertIs(is_pairing(Z2, line(C2), line(C2), ONE), False)
        self.assertIs(is_pairing(Z2, line(C2), line(C2), (((0,),),)), True)
        self.assertIs(is_pairing(Z2, line(C2), Floor.still(C2, (4,)), ONE), False)
        self.assertIs(is_pairing(Z2, line(C2), Floor.still(C2, (4,)), (((2,),),)), True)
        self.assertIs(is_pairing(line(C2), Z2, Floor.still(C2, (4,)), ONE), False)
        self.assertIs(is_pairing(line(C2), line(C2), Z2, (((-LONGEST,),),)), True)
        self.assertIs(is_pairing(R2, R2, line(C2), (((1, 0), (0, 0)),)), False)
        self.assertIs(is_pairing(R2, R2, line(C2), (((0, 1), (1, 0)),)), True)
        self.assertIs(is_pairing(R2, R2, Z2, (((3, 0), (0, 1)),)), True)

    def test_wrong_arguments(self):
        still = line(C2)
        for call, more in ((is_pairing, (None,)), (pairing_value, (None, None, None)), (turned, (None,)),
                           (product_row, (None,) * 5), (turned_source, (None,) * 5), (is_turned_source, (None,) * 6)):
            self.refuse_in_order(call, (still, still, still) + more, [
                (0, NO_FLOORS, InvalidFloor), (1, NO_FLOORS, InvalidFloor), (2, NO_FLOORS, InvalidFloor)])
            for floors in ((Z3, still, still), (still, Z3, still), (still, still, Z3)):
                self.refused(InvalidOperation, call, *floors, *more)
        self.refuse_in_order(pairing_value, (ZS, Z2, Z2, ONE, (1,), (1,)), [
            (3, (None, (), 1, ONE * 2), InvalidTable), (4, wrong_values(ZS), InvalidRow), (5, wrong_values(Z2), InvalidRow)])
        no_steps = NO_NUMBERS + (-1, 5)
        for call, more in ((product_row, ()), (turned_source, ()), (is_turned_source, (None,))):
            self.refuse_in_order(call, (ZS, Z2, Z2, ONE, 1, {}, 2, {}) + more, [
                (3, (None, (), 1, ONE * 2), InvalidTable), (4, no_steps, InvalidNumber), (5, wrong_rows(ZS, 1), InvalidRow),
                (6, no_steps, InvalidNumber), (7, wrong_rows(Z2, 2), InvalidRow)])
            self.refused(TooMany, call, ZS, Z2, Z2, ONE, 3, {(1, 1, 1): (1,)}, 2, {(1, 1): (1,)}, *more, limit=4)
            six = line(C6)
            self.refused(TooMany, call, six, six, six, ONE, 4, {}, 1, {}, *more, limit=4)
            self.refused(TooMany, call, six, six, six, ONE, 4, {}, 0, {}, *more, limit=5000)
            self.refused(TooMany, call, six, six, six, ONE, 2, {(1, 1): (1,)}, 2, {}, *more, limit=5000)
            self.refused(InvalidRow, call, six, six, six, ONE, 2, {}, 2, {(1,): (1,)}, *more)
        five = line(C5)
        self.assertEqual(product_row(five, five, five, ONE, 2, {(1, 2): (3,)}, 2, {(0, 4): (5,)}), {(1, 2, 0, 4): (15,)})
        eight, nine = line(Group.round(8)), line(Group.round(9))
        self.assertEqual(product_row(eight, eight, eight, ONE, 1, {(7,): (2,)}, 2, {(0, 4): (5,)}), {(7, 0, 4): (10,)})
        self.refused(TooMany, product_row, nine, nine, nine, ONE, 1, {(7,): (2,)}, 2, {(0, 4): (5,)}, limit=5000)
        self.refused(TooMany, pairing_value, still, still, still, (((2,),),), (LONGEST,), (1,), limit=60)
        self.assertEqual(pairing_value(still, still, still, ONE, (LONGEST,), (-1,)), (-LONGEST,))
        self.refused(TooMany, product_row, still, still, still, ONE, 1, {(1,): (LONGEST,)}, 1, {(1,): (2,)}, limit=60)
        self.assertEqual(product_row(ZS, ZS, still, ONE, 1, {(1,): (LONGEST,)}, 1, {(1,): (1,)}), {(1, 1): (-LONGEST,)})


class ProductTest(Refusals, unittest.TestCase):
    def test_products_by_words(self):
        for one, other, third, pairing in CASES:
            for p, q in steps_for(third.group, 1100):
                f, h = some_row(one, p, 9, p), some_row(other, q, 9, q + 7)
                found = product_row(one, other, third, pairing, p, f, q, h)
                self.assertEqual(found, slow_product(one, other, third, pairing, p, f, q, h))
                self.assertEqual(list(found), sorted(found))
                self.assertTrue(is_row(third, p + q, found))

    def test_changes_of_products(self):
        for one, other, third, pairing in CASES:
            for p, q in steps_for(third.group, 260):
                if p + q > 3:
                    continue
                f, h = some_row(one, p, 9, p), some_row(other, q, 9, q + 7)
                left = product_row(one, other, third, pairing, p + 1, slow_change(one, p, f), q, h)
                right = product_row(one, other, third, pairing, p, f, q + 1, slow_change(other, q, h))
                changed = slow_change(third, p + q, product_row(one, other, third, pairing, p, f, q, h))
                self.assertEqual(changed, row_sum(third, p + q + 1, left, row_times(third, p + q + 1, (-1) ** p, right)))
                further = some_row(one, p, 9, p + 3)
                both = product_row(one, other, third, pairing, p, row_sum(one, p, f, further), q, h)
                self.assertEqual(both, row_sum(third, p + q, product_row(one, other, third, pairing, p, f, q, h),
                                               product_row(one, other, third, pairing, p, further, q, h)))
                further = some_row(other, q, 9, q + 5)
                both = product_row(one, other, third, pairing, p, f, q, row_sum(other, q, h, further))
                self.assertEqual(both, row_sum(third, p + q, product_row(one, other, third, pairing, p, f, q, h),
                                               product_row(one, other, third, pairing, p, f, q, further)))

    def test_classes_of_products(self):
        for one, other, third, pairing in CASES:
            for p, q in steps_for(third.group, 300):
                if p + q == 0 or (third.group.size > 3 and p + q > 3):
                    continue
                f, h = some_closed(one, p, 1), some_closed(other, q, 2)
                found = product_row(one, other, third, pairing, p, f, q, h)
                self.assertTrue(is_closed(third, p + q, found))
                if p:
                    change = slow_change(one, p - 1, some_row(one, p - 1, 9, 5))
                    told = product_row(one, other, third, pairing, p, change, q, h)
                    self.assertIsNotNone(source_of(third, p + q, told))
                if q:
                    change = slow_change(other, q - 1, some_row(other, q - 1, 9, 5))
                    told = product_row(one, other, third, pairing, p, f, q, change)
                    self.assertIsNotNone(source_of(third, p + q, told))

    def test_brackets_and_the_unit(self):
        for floor in (ZS, MIXED, PLANE, WALL, Floor.still(V4, (0, 4)), SWAP):
            still, pairing = line(floor.group), scale(floor.places)
            for p, q, r in product(range(3), repeat=3):
                if p + q + r > 4 or floor.group.size ** (p + q + r + 1) > 700:
                    continue
                f, h, k = some_row(still, p, 5, 1), some_row(still, q, 5, 2), some_row(floor, r, 5, 3)
                left = product_row(still, floor, floor, pairing, p + q,
                                   product_row(still, still, still, ONE, p, f, q, h), r, k)
                right = product_row(still, floor, floor, pairing, p, f, q + r,
                                    product_row(still, floor, floor, pairing, q, h, r, k))
                self.assertEqual(left, right)
            row = some_row(floor, 2, 9, 4)
            self.assertEqual(product_row(still, floor, floor, pairing, 0, {(): (1,)}, 2, row), row)
            back = turned(still, floor, floor, pairing)
            self.assertEqual(product_row(floor, still, floor, back, 2, row, 0, {(): (1,)}), row)

    def test_seen_from_parts(self):
        for one, other, third, pairing in CASES:
            group = third.group
            for part in group_parts(group):
                floors = [seen_floor(floor, part) for floor in (one, other, third)]
                for p, q in steps_for(group, 260):
                    f, h = some_row(one, p, 9, p), some_row(other, q, 9, q + 7)
                    found = seen_row(third, part, p + q, product_row(one, other, third, pairing, p, f, q, h))
                    self.assertEqual(found, product_row(*floors, pairing, p, seen_row(one, part, p, f),
                                                        q, seen_row(other, part, q, h)))
                    if p + q == 0 or p + q > 3 or group.size > 4:
                        continue
                    f, own = some_closed(one, p, 1), some_closed(floors[1], q, 2)
                    left = product_row(one, other, third, pairing, p, f, q, carried_back(other, part, q, own))
                    right = carried_back(third, part, p + q, product_row(*floors, pairing, p, seen_row(one, part, p, f),
                                                                         q, own))
                    self.assertTrue(are_one_class(third, p + q, left, right))


class TurnedTest(Refusals, unittest.TestCase):
    def test_turned_sources(self):
        for one, other, third, pairing in CASES:
            back = turned(one, other, third, pairing)
            for p, q in steps_for(third.group, 1300):
                if p + q == 0:
                    continue
                for seed in (1, 2):
                    f, h = some_closed(one, p, seed), some_closed(other, q, seed + 4)
                    found = turned_source(one, other, third, pairing, p, f, q, h)
                    self.assertTrue(is_row(third, p + q - 1, found))
                    self.assertEqual(list(found), sorted(found))
                    left = product_row(one, other, third, pairing, p, f, q, h)
                    right = product_row(other, one, third, back, q, h, p, f)
                    wanted = row_difference(third, p + q, left, row_times(third, p + q, (-1) ** (p * q), right))
                    self.assertEqual(slow_change(third, p + q - 1, found), wanted)
                    self.assertIs(is_turned_source(one, other, third, pairing, p, f, q, h, found), True)
                    further = row_sum(third, p + q - 1, found, some_row(third, p + q - 1, 3, seed))
                    self.assertIs(is_turned_source(one, other, third, pairing, p, f, q, h, further),
                                  slow_change(third, p + q - 1, further) == wanted)

    def test_open_rows(self):
        still = line(C2)
        for call, more in ((turned_source, ()), (is_turned_source, (None,))):
            self.refused(Refused, call, still, still, still, ONE, 1, {(1,): (1,)}, 1, {}, *more, reason=("closed",))
            self.refused(Refused, call, still, still, still, ONE, 1, {}, 1, {(1,): (1,)}, *more, reason=("closed",))
            self.refused(Refused, call, ZS, ZS, still, ONE, 0, {(): (1,)}, 0, {}, *more, reason=("closed",))
            self.refused(InvalidOperation, call, still, still, still, ONE, 0, {(): (1,)}, 0, {}, *more)
        for wrong in WRONG + ({(1,): (0,)}, {(1, 1): (1,)}, C2, {(1,): (TOO_LONG,)}):
            if wrong != {}:
                self.assertIs(is_turned_source(ZS, ZS, still, ONE, 1, {}, 1, {}, wrong), False)
        self.assertIs(is_turned_source(ZS, ZS, still, ONE, 1, {}, 1, {}, {}), True)

    def test_sixty_digits(self):
        still = line(C2)
        f, h = {(1,): (LONGEST,)}, {(1,): (1,)}
        found = turned_source(ZS, ZS, still, ONE, 1, f, 1, h)
        self.assertIs(is_turned_source(ZS, ZS, still, ONE, 1, f, 1, h, found), True)
        # the product is too long, and so is each source
        far = {(1,): (10 ** 40,)}
        self.refused(TooMany, turned_source, ZS, ZS, still, ONE, 1, far, 1, far, limit=60)
        # here what is put in for members is too long, and the difference is 0
        rest = Floor.still(C2, (0,))
        near = slow_change(rest, 1, {(0,): (10 ** 40,)})
        self.assertEqual(near, {members: (10 ** 40,) for members in ((0, 0), (0, 1), (1, 0))} | {(1, 1): (-10 ** 40,)})
        zero = {}
        self.assertEqual(turned_source(rest, rest, rest, ONE, 2, near, 2, zero), {})


class RoundTest(unittest.TestCase):
    def test_products_lead_classes_on(self):
        for group in (C2, C3, C4, Group.both(C2, C3)):
            still, maker = line(group), maker_of(group)
            powers = [group.power(maker, number) for number in range(group.size)]
            two = {(powers[i], powers[j]): (1,) for i in range(group.size) for j in range(group.size)
                   if i + j >= group.size}
            self.assertTrue(is_closed(still, 2, two))
            for floor in (still, Floor.still(group, (4,)), Floor.still(group, (0, 6))):
                for step in (1, 2):
                    many = floor.places
                    if (group.size - 1) ** (step + 3) * many > 300 or group.size ** (step + 3) > 5000:
                        continue
                    self.assertEqual(class_list(floor, step), class_list(floor, step + 2))
                    for maker_row in class_makers(floor, step):
                        led = product_row(still, floor, floor, scale(many), 2, two, step, maker_row)
                        self.assertEqual(class_order(floor, step + 2, led), class_order(floor, step, maker_row))

    def test_not_true(self):
        # a product of two closed rows that are no changes, and is one
        floor = Floor.still(C4, (2,))
        row = {(1,): (1,), (3,): (1,)}
        self.assertIsNone(source_of(floor, 1, row))
        self.assertIsNotNone(source_of(floor, 2, product_row(floor, floor, floor, ONE, 1, row, 1, row)))
        # a closed 1-row with itself that is no change
        self.assertIsNone(source_of(Z2, 2, product_row(Z2, Z2, Z2, ONE, 1, {(1,): (1,)}, 1, {(1,): (1,)})))
        # what does not go along with the group is no pairing: it would make an open row of closed ones
        self.assertIs(is_pairing(ZS, ZS, ZS, ONE), False)
        row = {(1,): (1,)}
        self.assertTrue(is_closed(ZS, 1, row))
        self.assertFalse(is_closed(ZS, 2, slow_product(ZS, ZS, ZS, ONE, 1, row, 1, row)))


if __name__ == "__main__":
    unittest.main()
