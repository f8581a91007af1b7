"""Rows seen from parts, and carried back: points 0.13, 0.17 and 9.1 to 9.8."""

import unittest
from math import gcd

from examples import (A4, C1, C2, C3, C4, C6, D4, E8, LONGEST, S4, MIXED, NO_FLOORS, NO_NUMBERS, NO_PARTS, Q8, Refusals, S3,
                      SIGN, SWAP, V4, WALL, ZS, regular, slow_change, some_row, tuples_of, wrong_rows)
from groupsover.base.floors import Floor, seen_floor
from groupsover.base.groups import (Group, coset_leaders, group_parts, moved_part, normalizer_of, part_group, prime_part)
from groupsover.errors import InvalidFloor, InvalidGroup, InvalidNumber, InvalidOperation, InvalidRow, Refused, TooMany
from groupsover.rows.closed import are_one_class, class_list, class_makers, class_order, is_closed, source_of
from groupsover.rows.rows import is_row, row_difference, row_sum, row_times
from groupsover.seen.parts import (carried_back, class_primes, is_agreeing, moved_row, prime_share, seen_row, spread_row)

A4F = Floor.made(A4, (2, 2), {A4.moves.index((1, 2, 0, 3)): ((0, 1), (1, 1)), A4.moves.index((1, 0, 3, 2)): ((1, 0), (0, 1))})
FLOORS = (Floor.still(S3, (0,)), SIGN, WALL, Floor.still(S3, (6,)), Floor.still(V4, (0, 4)), SWAP, MIXED, ZS,
          Floor.still(C6, (0, 6)), Floor.still(C4, (8,)), Floor.still(C1, (0, 3)), regular(C4, 2),
          Floor.made(S3, (3,), {1: ((-1,),), 2: ((-1,),)}), Floor.made(C4, (5,), {1: ((2,),)}))
GREAT = (Floor.still(D4, (2,)), Floor.still(Q8, (4,)), Floor.still(A4, (6,)), A4F, Floor.still(A4, (0,)),
         Floor.still(Group.round(10), (10,)), Floor.made(D4, (0,), {D4.moves.index((1, 2, 3, 0)): ((1,),),
                                                                    D4.moves.index((0, 3, 2, 1)): ((-1,),)}))


def steps_for(floor, most):
    """The steps whose changes have at most so many tuples."""
    return [step for step in range(4) if floor.group.size ** (step + 1) <= most]


def some_closed(floor, step, seed=1, bound=5):
    """A closed row: a change, and some of the makers."""
    if step == 0:
        return {}
    row = slow_change(floor, step - 1, some_row(floor, step - 1, bound, seed))
    if (floor.group.size - 1) ** (step + 1) * floor.places <= 300:
        for times, maker in enumerate(class_makers(floor, step), seed):
            row = row_sum(floor, step, row, row_times(floor, step, times, maker))
    return row


def slow_carried(floor, part, step, row):
    """What is carried back, by its words alone."""
    group, zero, found = floor.group, (0,) * floor.places, {}
    leaders = coset_leaders(group, part)
    for members in tuples_of(group, step):
        total = zero
        for leader in leaders:
            last, told = leader, []
            for member in members:
                one = group.product(last, member)
                last = [c for c in leaders if group.product(one, group.inverse(c)) in part][0]
                told.append(part.index(group.product(one, group.inverse(last))))
            total = floor.added(total, floor.moved(group.inverse(leader), row.get(tuple(told), zero)))
        if any(total):
            found[members] = total
    return found


def slow_moved(floor, part, member, step, row):
    """What a member makes of a row, by its words alone."""
    group, zero, found = floor.group, (0,) * floor.places, {}
    moved = moved_part(group, part, member)
    back = group.inverse(member)
    for members in tuples_of(part_group(group, moved), step):
        told = tuple(part.index(group.product(group.product(back, moved[x]), member)) for x in members)
        value = floor.moved(member, row.get(told, zero))
        if any(value):
            found[members] = value
    return found


def slow_agrees_at(floor, part, member, step, row):
    """Whether a row agrees at a member, by the words."""
    group, moved = floor.group, moved_part(floor.group, part, member)
    meet = tuple(sorted(set(part) & set(moved)))
    one = seen_row(seen_floor(floor, part), tuple(part.index(x) for x in meet), step, row)
    other = seen_row(seen_floor(floor, moved), tuple(moved.index(x) for x in meet), step,
                     moved_row(floor, part, member, step, row))
    self_floor = seen_floor(floor, meet)
    assert group == floor.group
    return are_one_class(self_floor, step, one, other)


class SeenTest(Refusals, unittest.TestCase):
    def test_seen_rows(self):
        for floor in FLOORS:
            for part in group_parts(floor.group):
                seen = seen_floor(floor, part)
                for step in steps_for(floor, 300):
                    row = some_row(floor, step, 9, step)
                    found = seen_row(floor, part, step, row)
                    wanted = {}
                    for members in tuples_of(seen.group, step):
                        value = row.get(tuple(part[index] for index in members))
                        if value is not None:
                            wanted[members] = value
                    self.assertEqual(found, wanted)
                    self.assertEqual(list(found), sorted(found))
                    self.assertTrue(is_row(seen, step, found))
                    if step < 3 and floor.group.size ** (step + 2) <= 300:
                        self.assertEqual(slow_change(seen, step, found),
                                         seen_row(floor, part, step + 1, slow_change(floor, step, row)))

    def test_carried_back_by_words(self):
        for floor in FLOORS:
            for part in group_parts(floor.group):
                seen = seen_floor(floor, part)
                for step in steps_for(floor, 260):
                    row = some_row(seen, step, 9, step + 3)
                    found = carried_back(floor, part, step, row)
                    self.assertEqual(found, slow_carried(floor, part, step, row))
                    self.assertEqual(list(found), sorted(found))
                    if floor.group.size ** (step + 2) <= 300:
                        self.assertEqual(slow_change(floor, step, found),
                                         carried_back(floor, part, step + 1, slow_change(seen, step, row)))

    def test_moved_rows_by_words(self):
        for floor in FLOORS:
            for part in group_parts(floor.group):
                seen = seen_floor(floor, part)
                for member in floor.group:
                    moved = moved_part(floor.group, part, member)
                    for step in steps_for(floor, 50):
                        row = some_row(seen, step, 9, step + 3)
                        found = moved_row(floor, part, member, step, row)
                        self.assertEqual(found, slow_moved(floor, part, member, step, row))
                        self.assertEqual(list(found), sorted(found))
                        self.assertEqual(slow_change(seen_floor(floor, moved), step, found),
                                         moved_row(floor, part, member, step + 1, slow_change(seen, step, row)))

    def test_classes_that_are_moved_and_carried(self):
        for floor in FLOORS + GREAT[:1]:
            for part in group_parts(floor.group):
                seen, many = seen_floor(floor, part), floor.group.size // len(part)
                for step in steps_for(floor, 520)[1:]:
                    row = some_closed(floor, step)
                    told = seen_row(floor, part, step, row)
                    self.assertTrue(is_closed(seen, step, told))
                    back = carried_back(floor, part, step, told)
                    self.assertTrue(are_one_class(floor, step, back, row_times(floor, step, many, row)))
                    own = some_closed(seen, step, 2)
                    for member in part:
                        self.assertTrue(are_one_class(seen, step, own, moved_row(floor, part, member, step, own)))
                    for member in floor.group:
                        moved = moved_part(floor.group, part, member)
                        self.assertTrue(are_one_class(seen_floor(floor, moved), step, seen_row(floor, moved, step, row),
                                                      moved_row(floor, part, member, step, told)))

    def test_parts_of_parts(self):
        for floor in FLOORS[:5] + GREAT[:2]:
            parts = group_parts(floor.group)
            for part in parts:
                seen = seen_floor(floor, part)
                for inner in [one for one in parts if set(one) <= set(part)]:
                    at = tuple(part.index(member) for member in inner)
                    for step in steps_for(floor, 70):
                        row = some_row(floor, step, 5, 3)
                        self.assertEqual(seen_row(seen, at, step, seen_row(floor, part, step, row)),
                                         seen_row(floor, inner, step, row))
                        own = some_closed(seen_floor(floor, inner), step, 4)
                        back = carried_back(floor, part, step, carried_back(seen, at, step, own))
                        at_once = carried_back(floor, inner, step, own)
                        if step:
                            self.assertTrue(are_one_class(floor, step, back, at_once))
                        else:
                            self.assertEqual(back, at_once)
                        if step == 0:
                            fixed = {(): floor.repeated(1, (0,) * floor.places)}
                            self.assertEqual(any(fixed[()]), False)

    def test_closed_zero_rows_carried_from_parts_of_parts(self):
        floor = Floor.still(S3, (0, 6))
        for inner, part in (((0,), (0, 1)), ((0,), (0, 3, 4)), ((0, 1), (0, 1, 2, 3, 4, 5))):
            at = tuple(part.index(member) for member in inner)
            back = carried_back(floor, part, 0, carried_back(seen_floor(floor, part), at, 0, {(): (5, 1)}))
            self.assertEqual(back, carried_back(floor, inner, 0, {(): (5, 1)}))

    def test_wrong_arguments(self):
        no_steps, part = NO_NUMBERS + (-1, 5), (0, 1)
        floor = WALL
        seen = seen_floor(floor, part)
        self.refuse_in_order(seen_row, (floor, part, 1, {}), [
            (0, NO_FLOORS, InvalidFloor), (1, NO_PARTS, InvalidGroup), (2, no_steps, InvalidNumber),
            (3, wrong_rows(floor, 1), InvalidRow)])
        self.refuse_in_order(carried_back, (floor, part, 1, {}), [
            (0, NO_FLOORS, InvalidFloor), (1, NO_PARTS, InvalidGroup), (2, no_steps, InvalidNumber),
            (3, wrong_rows(seen, 1), InvalidRow)])
        self.refuse_in_order(moved_row, (floor, part, 2, 1, {}), [
            (0, NO_FLOORS, InvalidFloor), (1, NO_PARTS, InvalidGroup), (2, NO_NUMBERS + (-1, 6), InvalidNumber),
            (3, no_steps, InvalidNumber), (4, wrong_rows(seen, 1), InvalidRow)])
        for call in (is_agreeing, spread_row):
            self.refuse_in_order(call, (floor, part, 1, {}), [
                (0, NO_FLOORS, InvalidFloor), (1, NO_PARTS, InvalidGroup), (2, no_steps + (0,), InvalidNumber),
                (3, wrong_rows(seen, 1), InvalidRow)])
        self.refuse_in_order(prime_share, (floor, 2, 1, {}), [
            (0, NO_FLOORS, InvalidFloor), (1, NO_NUMBERS + (0, 1, 4, 33, 37, -2), InvalidNumber),
            (2, no_steps + (0,), InvalidNumber), (3, wrong_rows(floor, 1), InvalidRow)])
        self.refuse_in_order(class_primes, (floor, 1, {}), [
            (0, NO_FLOORS, InvalidFloor), (1, no_steps + (0,), InvalidNumber), (2, wrong_rows(floor, 1), InvalidRow)])
        # a row of the whole floor is none of the seen one
        self.refused(InvalidRow, carried_back, floor, part, 1, {(2,): (1, 0)})
        self.assertEqual(seen_row(floor, part, 1, {(2,): (1, 0)}), {})

    def test_too_many_tuples_of_the_whole_group(self):
        floor, part = Floor.still(Group.round(18), (0,)), (0, 9)
        self.refused(TooMany, seen_row, floor, part, 2, {}, limit=5000)
        self.refused(TooMany, carried_back, floor, part, 2, {(1, 1): (1,)}, limit=5000)
        self.refused(TooMany, moved_row, floor, part, 1, 2, {(1, 1): (1,)}, limit=5000)
        self.refused(TooMany, is_agreeing, floor, part, 2, {(1, 0): (1,)}, limit=5000)
        self.refused(TooMany, spread_row, floor, part, 2, {(1, 0): (1,)}, limit=5000)
        self.refused(TooMany, prime_share, floor, 2, 2, {(1, 0): (1,)}, limit=5000)
        self.refused(TooMany, class_primes, floor, 2, {(1, 0): (1,)}, limit=5000)
        self.refused(InvalidRow, carried_back, floor, part, 2, {(2, 1): (1,)})
        floor, part = Floor.still(Group.round(17), (0,)), (0,)
        self.assertEqual(seen_row(floor, part, 2, {(0, 0): (1,), (1, 0): (2,)}), {(0, 0): (1,)})
        self.assertEqual(len(carried_back(floor, part, 2, {(0, 0): (1,)})), 289)
        self.assertEqual(carried_back(floor, part, 2, {(0, 0): (1,)})[(3, 4)], (17,))

    def test_sixty_digits(self):
        floor = Floor.still(C2, (0,))
        self.assertEqual(carried_back(floor, (0,), 0, {(): (LONGEST // 2,)}), {(): (2 * (LONGEST // 2),)})
        self.refused(TooMany, carried_back, floor, (0,), 0, {(): (LONGEST,)}, limit=60)
        self.assertEqual(carried_back(ZS, (0,), 0, {(): (LONGEST,)}), {})
        self.refused(TooMany, moved_row, Floor.made(C3, (0, 0), {1: ((0, -1), (1, -1))}), (0,), 1, 0,
                     {(): (LONGEST, -LONGEST)}, limit=60)
        row = slow_change(floor, 1, {(1,): (LONGEST // 2,)})
        self.assertEqual(prime_share(floor, 2, 2, row), row)
        six = Floor.still(C6, (0,))
        row = slow_change(six, 1, {(1,): (LONGEST // 2,)})
        self.refused(TooMany, prime_share, six, 2, 2, row, limit=60)
        self.assertEqual(class_primes(six, 2, row), ())
        # what would be long is told by a lesser row of the class
        row = slow_change(seen_floor(six, (0, 2, 4)), 1, {(1,): (LONGEST // 2,)})
        found = spread_row(six, (0, 2, 4), 2, row)
        self.assertTrue(is_closed(six, 2, found))
        self.assertTrue(are_one_class(seen_floor(six, (0, 2, 4)), 2, seen_row(six, (0, 2, 4), 2, found), row))


class AgreeingTest(Refusals, unittest.TestCase):
    def test_agreeing_by_words(self):
        for floor in FLOORS + GREAT:
            for part in group_parts(floor.group):
                seen = seen_floor(floor, part)
                for step in steps_for(floor, 1800)[1:3]:
                    if len(part) ** (step + 1) > 130:
                        continue
                    for seed in (1, 2):
                        row = some_closed(seen, step, seed)
                        unlike = [member for member in floor.group
                                  if not slow_agrees_at(floor, part, member, step, row)]
                        self.assertIs(is_agreeing(floor, part, step, row), not unlike)
                        self.look_at_spread(floor, part, step, row, unlike)

    def look_at_spread(self, floor, part, step, row, unlike):
        """A closed row agrees exactly if some closed row, seen from the part, is of its class."""
        seen, many = seen_floor(floor, part), floor.group.size // len(part)
        if gcd(len(part), many) != 1:
            self.refused(InvalidOperation, spread_row, floor, part, step, row)
        elif unlike:
            self.refused(Refused, spread_row, floor, part, step, row, reason=("moved", unlike[0]))
        else:
            found = spread_row(floor, part, step, row)
            self.assertTrue(is_row(floor, step, found))
            self.assertTrue(is_closed(floor, step, found))
            self.assertEqual(list(found), sorted(found))
            self.assertTrue(are_one_class(seen, step, seen_row(floor, part, step, found), row))

    def test_what_is_seen_agrees(self):
        for floor in FLOORS + GREAT[:3]:
            for part in group_parts(floor.group):
                for step in steps_for(floor, 520)[1:3]:
                    row = seen_row(floor, part, step, some_closed(floor, step))
                    self.assertIs(is_agreeing(floor, part, step, row), True)

    def test_not_all_rows_agree(self):
        floor, part = Floor.still(S3, (3,)), (0, 3, 4)
        row = {(1,): (1,), (2,): (2,)}
        self.assertIs(is_agreeing(floor, part, 1, row), False)
        self.refused(Refused, spread_row, floor, part, 1, row, reason=("moved", 1))
        turned = Floor.made(S3, (3,), {1: ((-1,),), 2: ((-1,),)})
        self.assertIs(is_agreeing(turned, part, 1, row), True)
        found = spread_row(turned, part, 1, row)
        self.assertTrue(are_one_class(seen_floor(turned, part), 1, seen_row(turned, part, 1, found), row))

    def test_open_rows(self):
        floor, part = Floor.still(S3, (0,)), (0, 1)
        self.refused(Refused, is_agreeing, floor, part, 1, {(1,): (1,)}, reason=("open",))
        self.refused(Refused, spread_row, floor, part, 1, {(1,): (1,)}, reason=("open",))
        # parts whose size and index are not fit come ahead of open rows
        self.refused(InvalidOperation, spread_row, Floor.still(C4, (0,)), (0, 2), 1, {(1,): (1,)})
        self.refused(Refused, prime_share, floor, 2, 1, {(1,): (1,)}, reason=("open",))
        self.refused(Refused, class_primes, floor, 1, {(1,): (1,)}, reason=("open",))
        self.assertEqual(spread_row(floor, (0,), 1, {}), {})
        self.assertEqual(spread_row(floor, (0, 1, 2, 3, 4, 5), 1, {}), {})


class ShareTest(Refusals, unittest.TestCase):
    def test_shares(self):
        for floor in FLOORS + GREAT:
            group = floor.group
            primes = [prime for prime in (2, 3, 5, 7) if group.size % prime == 0]
            for step in steps_for(floor, 1800)[1:3]:
                row = some_closed(floor, step)
                total, unlike = {}, []
                for prime in (2, 3, 5, 7, 11, 31):
                    share = prime_share(floor, prime, step, row)
                    power = 1
                    while group.size // power % prime == 0:
                        power *= prime
                    times = [k for k in range(group.size) if k % (group.size // power) == 0 and k % power == 1]
                    self.assertEqual(share, row_times(floor, step, times[0] if power > 1 else 0, row))
                    total = row_sum(floor, step, total, share)
                    if prime in primes:
                        part = prime_part(group, prime)
                        seen = seen_floor(floor, part)
                        self.assertTrue(are_one_class(seen, step, seen_row(floor, part, step, row),
                                                      seen_row(floor, part, step, share)))
                        no_change = source_of(floor, step, share) is None
                        self.assertEqual(no_change, source_of(seen, step, seen_row(floor, part, step, row)) is None)
                        if no_change:
                            unlike.append(prime)
                if group.size > 1:
                    self.assertTrue(are_one_class(floor, step, row, total))
                found = class_primes(floor, step, row)
                self.assertEqual(found, tuple(unlike))
                self.assertEqual(found == (), source_of(floor, step, row) is not None)
                self.assertEqual(class_order(floor, step, row) == 1, found == ())


class NotTrueTest(unittest.TestCase):
    def test_parts_that_one_member_makes_do_not_tell_all(self):
        # seen from each round it is a change, but it is none itself
        floor = Floor.still(V4, (2,))
        row = {(1, 2): (1,), (1, 3): (1,), (3, 2): (1,), (3, 3): (1,)}
        found = []
        for makers in range(8):
            told = {}
            for at, maker in enumerate(class_makers(floor, 2)):
                told = row_sum(floor, 2, told, row_times(floor, 2, makers >> at & 1, maker))
            rounds = [part for part in group_parts(V4) if len(part) == 2]
            if all(source_of(seen_floor(floor, part), 2, seen_row(floor, part, 2, told)) is not None for part in rounds):
                found.append(source_of(floor, 2, told) is None)
        self.assertEqual(found, [False])
        self.assertTrue(is_closed(floor, 2, row))
        three = Floor.still(V4, (0,))
        told = class_makers(three, 3)
        self.assertEqual(class_list(three, 3), (2,))
        rounds = [part for part in group_parts(V4) if len(part) == 2]
        self.assertTrue(all(source_of(seen_floor(three, part), 3, seen_row(three, part, 3, told[0])) is not None
                            for part in rounds))
        self.assertIsNone(source_of(three, 3, told[0]))

    def test_the_normalizer_does_not_tell_agreement(self):
        # a part of eight members, which is its own normalizer, in a group of twenty-four
        floor, part = Floor.still(S4, (2,)), prime_part(S4, 2)
        self.assertEqual(normalizer_of(S4, part), part)
        found = []
        for row in [{}] + list(class_makers(seen_floor(floor, part), 1)):
            normal = all(slow_agrees_at(floor, part, member, 1, row) for member in normalizer_of(S4, part))
            found.append((normal, is_agreeing(floor, part, 1, row)))
        self.assertIn((True, False), found)
        self.assertIn((True, True), found)
        self.assertNotIn((False, True), found)

    def test_carried_back_and_seen_again_is_no_multiple(self):
        floor, part = Floor.still(S3, (3,)), (0, 3, 4)
        row = {(1,): (1,), (2,): (2,)}
        found = seen_row(floor, part, 1, carried_back(floor, part, 1, row))
        self.assertNotEqual(found, row_times(seen_floor(floor, part), 1, 2, row))
        self.assertFalse(are_one_class(seen_floor(floor, part), 1, found,
                                       row_times(seen_floor(floor, part), 1, 2, row)))
        self.assertEqual(row_difference(seen_floor(floor, part), 1, found, found), {})
        self.assertEqual(len(group_parts(E8)), 16)


if __name__ == "__main__":
    unittest.main()
