"""Rows and their changes: points 0.9, 0.10, 0.19 and 4.1 to 4.4."""

import unittest

from examples import (C1, C2, C3, C4, C5, C6, D4, E32, LONGEST, MIXED, NO_FLOORS, NO_NUMBERS, PLANE, Q8, Refusals, S3,
                      SIGN, SWAP, TOO_LONG, TWIST, V4, WALL, WRONG, Z2, Z3, ZS, regular, slow_change, some_row,
                      tuples_of)
from groupsover.base.floors import Floor
from groupsover.base.groups import Group
from groupsover.errors import InvalidFloor, InvalidMap, InvalidNumber, InvalidOperation, InvalidRow, Refused, TooMany
from groupsover.rows import rows
from groupsover.rows.closed import class_makers, source_of
from groupsover.rows.rows import (change, clean_row, is_clean, is_row, mapped_row, row_at, row_difference, row_sum,
                                  row_times, summed_row)

FLOORS = (Z2, ZS, SWAP, MIXED, TWIST, PLANE, Z3, SIGN, WALL, Floor.still(V4, (0, 6)), Floor.still(C1, (0, 3)))
NO_STEPS = NO_NUMBERS + (-1, 5)
NO_ROWS = WRONG[:6] + WRONG[7:] + (
    {(1,): (0,)}, {(1,): ()}, {(1,): (1, 1)}, {(1,): [1]}, {(1,): 1}, {(1,): None}, {(1,): (True,)}, {(1,): ("1",)},
    {(2,): (1,)}, {(-1,): (1,)}, {(True,): (1,)}, {(): (1,)}, {(1, 1): (1,)}, {1: (1,)}, {"1": (1,)}, {None: (1,)},
    {("1",): (1,)}, {(None,): (1,)}, {((1,),): (1,)}, {(1,): (TOO_LONG,)}, {(1,): (-TOO_LONG,)}, {(1,): C2},
    {(TOO_LONG,): (1,)}, {(1,): (3,), (0,): (0,)}, ((1,), (1,)), C2, ZS, ((), ()), {(1,): {}}, {(1,): ((1,),)}, {1: 2},
    {(False,): (3,)}, {True: (1,)})


def many_steps(floor, most):
    """The steps for which a change has at most so many tuples."""
    return [step for step in range(4) if floor.group.size ** (step + 1) <= most]


class RowTest(Refusals, unittest.TestCase):
    def test_the_example(self):
        self.assertEqual([change(ZS, 0, {(): (3,)}), change(Z2, 1, {(1,): (1,)}),
                          change(Floor.still(C2, (0,)), 1, {(1,): (1,)}), row_at(Z2, 1, {(1,): (1,)}, (0,))],
                         [{(1,): (-6,)}, {}, {(1, 1): (2,)}, (0,)])

    def test_constants(self):
        self.assertEqual((rows.MAX_STEP, rows.MAX_ASKED), (4, 5000))

    def test_what_is_a_row(self):
        for wrong in NO_ROWS:
            self.assertIs(is_row(ZS, 1, wrong), False)
            self.assertIs(is_clean(ZS, 1, wrong), False)
            self.refused(InvalidRow, row_at, ZS, 1, wrong, None)
            self.refused(InvalidRow, change, ZS, 1, wrong)
            self.refused(InvalidRow, row_sum, ZS, 1, wrong, None)
            self.refused(InvalidRow, row_sum, ZS, 1, {}, wrong)
            self.refused(InvalidRow, row_difference, ZS, 1, wrong, None)
            self.refused(InvalidRow, row_difference, ZS, 1, {}, wrong)
            self.refused(InvalidRow, row_times, ZS, 1, 2, wrong)
            self.refused(InvalidRow, clean_row, ZS, 1, wrong)
            self.refused(InvalidRow, summed_row, ZS, 1, wrong)
            self.refused(InvalidRow, mapped_row, ZS, Z2, ((1,),), 1, wrong)
        for step, right in ((0, {}), (0, {(): (5,)}), (1, {}), (1, {(0,): (LONGEST,), (1,): (-LONGEST,)}),
                            (4, {(0, 1, 0, 1): (1,)})):
            self.assertIs(is_row(ZS, step, right), True)
        self.assertIs(is_row(Z2, 1, {(1,): (2,)}), False)
        self.assertIs(is_row(MIXED, 0, {(): (0, 4)}), False)
        self.assertIs(is_row(MIXED, 0, {(): (0, 3)}), True)
        self.assertIs(is_row(MIXED, 0, {(): (0, 0)}), False)

    def test_wrong_floors_and_steps(self):
        calls = ((is_row, 1), (row_at, 2), (change, 1), (row_sum, 2), (row_difference, 2), (row_times, 2),
                 (clean_row, 1), (is_clean, 1), (summed_row, 1))
        for call, many in calls:
            for wrong in NO_FLOORS:
                self.refused(InvalidFloor, call, wrong, 9, *[None] * many)
            for wrong in NO_STEPS:
                self.refused_number(call, wrong, ZS, wrong, *[None] * many)
        self.refused(InvalidNumber, change, ZS, 4, None, given=4)
        for call in (clean_row, summed_row):
            self.refused(InvalidNumber, call, ZS, 0, None, given=0)
        for wrong in NO_NUMBERS:
            self.refused_number(row_times, wrong, ZS, 1, wrong, None)

    def test_values_at_tuples(self):
        row = some_row(MIXED, 2, 9, 1)
        for members in tuples_of(C2, 2):
            self.assertEqual(row_at(MIXED, 2, row, members), row.get(members, (0, 0)))
        self.assertEqual(row_at(ZS, 0, {(): (5,)}, ()), (5,))
        for wrong in WRONG + ((), (0,), (0, 0, 0), (0, 2), (0, -1), (0, True), ("0", 0), [0, 0], (0, None), C2):
            self.refused(InvalidOperation, row_at, MIXED, 2, row, wrong)

    def test_changes_by_words(self):
        for floor in FLOORS:
            for step in many_steps(floor, 300):
                for seed in range(3):
                    row = some_row(floor, step, 20, seed)
                    changed = change(floor, step, row)
                    self.assertEqual(changed, slow_change(floor, step, row))
                    self.assertEqual(list(changed), sorted(changed))
                    if step < 3 and floor.group.size ** (step + 2) <= 300:
                        self.assertEqual(change(floor, step + 1, changed), {})

    def test_order_of_keys_has_no_effect(self):
        row = some_row(WALL, 2, 20, 5)
        turned = {members: row[members] for members in reversed(list(row))}
        for found, again in ((change(WALL, 2, row), change(WALL, 2, turned)),
                             (summed_row(WALL, 2, row), summed_row(WALL, 2, turned)),
                             (row_times(WALL, 2, 3, row), row_times(WALL, 2, 3, turned)),
                             (row_sum(WALL, 2, row, {}), row_sum(WALL, 2, {}, turned))):
            self.assertEqual(list(found.items()), list(again.items()))
            self.assertEqual(list(found), sorted(found))
        self.assertEqual(list(turned), list(reversed(list(row))))

    def test_sums_by_words(self):
        for floor in FLOORS:
            for step in many_steps(floor, 40):
                row, further = some_row(floor, step, 9, 1), some_row(floor, step, 9, 2)
                for times, found in ((1, row_sum(floor, step, row, further)),
                                     (-1, row_difference(floor, step, row, further))):
                    for members in tuples_of(floor.group, step):
                        one, other = (row_at(floor, step, each, members) for each in (row, further))
                        wanted = tuple((a + times * b) % rest if rest else a + times * b
                                       for a, b, rest in zip(one, other, floor.rests))
                        self.assertEqual(row_at(floor, step, found, members), wanted)
                    self.assertTrue(is_row(floor, step, found))
                self.assertEqual(row_difference(floor, step, row, row), {})
                self.assertEqual(row_times(floor, step, 3, row),
                                 row_sum(floor, step, row, row_sum(floor, step, row, row)))
                self.assertEqual(row_times(floor, step, -1, row), row_difference(floor, step, {}, row))
                self.assertEqual(row_times(floor, step, 0, row), {})
        self.assertEqual(row_times(Z2, 1, LONGEST, {(1,): (1,)}), {(1,): (1,)})

    def test_five_thousand_tuples(self):
        sides = ((2, Group.round(17), Group.round(18)), (3, D4, Group.round(9)), (4, C5, C6))
        for step, small, great in sides:
            right, wrong = Floor.still(small, (0,)), Floor.still(great, (0,))
            row = {(1,) * step: (1,)}
            self.assertIs(is_row(right, step, row), True)
            self.assertIs(is_clean(right, step, row), True)
            self.assertEqual(row_sum(right, step, row, row), {(1,) * step: (2,)})
            for call in ((lambda: is_row(wrong, step, None)), (lambda: is_clean(wrong, step, row)),
                         (lambda: row_at(wrong, step, {}, (1,) * step)), (lambda: row_sum(wrong, step, row, row)),
                         (lambda: row_difference(wrong, step, row, row)), (lambda: row_times(wrong, step, 2, row)),
                         (lambda: clean_row(wrong, step, row)), (lambda: summed_row(wrong, step, row)),
                         (lambda: mapped_row(wrong, wrong, ((1,),), step, row))):
                self.refused(TooMany, call, limit=5000)
            if step < 4:
                self.refused(TooMany, change, wrong, step, row, limit=5000)
                self.assertEqual(change(right, step, {}), {})
            # errors without "then" come first
            self.refused(InvalidRow, row_sum, wrong, step, row, None)
            self.refused(InvalidOperation, row_at, wrong, step, row, (1,))
            self.refused(InvalidRow, clean_row, wrong, step, None)
        whole = Floor.still(E32, (0,))
        self.assertIs(is_row(whole, 1, {(31,): (1,)}), True)
        self.assertEqual(len(change(whole, 1, {(1,): (1,)})), 91)
        self.refused(TooMany, is_row, whole, 2, {}, limit=5000)

    def test_sixty_digits(self):
        great = {(1,): (LONGEST,)}
        self.refused(TooMany, change, ZS, 0, {(): (LONGEST,)}, limit=60)
        self.refused(TooMany, row_sum, ZS, 1, great, {(1,): (1,)}, limit=60)
        self.refused(TooMany, row_difference, ZS, 1, great, {(1,): (-1,)}, limit=60)
        self.refused(TooMany, row_times, ZS, 1, -2, great, limit=60)
        self.refused(TooMany, summed_row, ZS, 1, {(0,): (1,), (1,): (LONGEST,)}, limit=60)
        self.assertEqual(row_sum(ZS, 1, great, {(1,): (-LONGEST,)}), {})
        self.assertEqual(change(ZS, 0, {(): (-5 * 10 ** 59 + 1,)}), {(1,): (10 ** 60 - 2,)})
        wrong = Floor.still(Group.round(18), (0,))
        self.refused(TooMany, row_times, wrong, 2, 2, {(1, 1): (LONGEST,)}, limit=5000)

    def test_sums_over_the_last_member(self):
        for floor in FLOORS:
            for step in many_steps(floor, 300)[1:]:
                row = some_row(floor, step, 9, 3)
                found = summed_row(floor, step, row)
                for members in tuples_of(floor.group, step - 1):
                    entries = [row_at(floor, step, row, members + (member,)) for member in floor.group]
                    wanted = tuple((-1) ** step * sum(column) % rest if rest else (-1) ** step * sum(column)
                                   for column, rest in zip(zip(*entries), floor.rests))
                    self.assertEqual(row_at(floor, step - 1, found, members), wanted)
                closed = change(floor, step - 1, some_row(floor, step - 1, 9, 4))
                several = row_times(floor, step, floor.group.size, closed)
                self.assertEqual(change(floor, step - 1, summed_row(floor, step, closed)), several)

    def test_equal_calls_share_nothing(self):
        row = {(1,): (3,)}
        found = row_sum(ZS, 1, row, {})
        found[(0,)] = (1,)
        self.assertEqual(row, {(1,): (3,)})
        self.assertEqual(row_sum(ZS, 1, row, {}), {(1,): (3,)})
        clean, _ = clean_row(ZS, 1, row)
        self.assertIsNot(clean, row)
        self.assertEqual(row, {(1,): (3,)})


class CleanTest(Refusals, unittest.TestCase):
    def test_what_is_clean(self):
        self.assertIs(is_clean(ZS, 0, {(): (1,)}), True)
        self.assertIs(is_clean(ZS, 1, {(1,): (1,)}), True)
        self.assertIs(is_clean(ZS, 1, {(0,): (1,)}), False)
        self.assertIs(is_clean(ZS, 3, {(1, 1, 1): (1,), (1, 0, 1): (1,)}), False)
        self.assertIs(is_clean(ZS, 4, {}), True)

    def test_clean_rows(self):
        for floor in FLOORS:
            for step in many_steps(floor, 1300)[1:]:
                closed = [change(floor, step - 1, some_row(floor, step - 1, 9, seed)) for seed in (1, 2)]
                if (floor.group.size - 1) ** (step + 1) * floor.places <= 300:
                    makers = class_makers(floor, step)
                    closed += list(makers) + [row_sum(floor, step, closed[0], maker) for maker in makers]
                for row in closed:
                    clean, lower = clean_row(floor, step, row)
                    self.assertTrue(is_clean(floor, step, clean))
                    self.assertTrue(is_row(floor, step - 1, lower))
                    self.assertEqual(row_sum(floor, step, clean, change(floor, step - 1, lower)), row)
                    for found in (clean, lower):
                        self.assertEqual(list(found), sorted(found))

    def test_clean_rows_of_four(self):
        for floor in (ZS, Z2, MIXED, Z3, Floor.still(C5, (0,))):
            row = slow_change(floor, 3, some_row(floor, 3, 9, 1))
            clean, lower = clean_row(floor, 4, row)
            self.assertTrue(is_clean(floor, 4, clean))
            self.assertEqual(row_sum(floor, 4, clean, change(floor, 3, lower)), row)

    def test_great_clean_rows(self):
        for floor in (Floor.still(C2, (0,)), ZS, Floor.still(C3, (0, 2)), PLANE):
            for step in (2, 3):
                row = slow_change(floor, step - 1, some_row(floor, step - 1, 10 ** 59, 7))
                self.assertTrue(is_row(floor, step, row))
                clean, lower = clean_row(floor, step, row)
                self.assertTrue(is_clean(floor, step, clean))
                self.assertEqual(row_sum(floor, step, clean, change(floor, step - 1, lower)), row)

    def test_great_clean_rows_whose_first_guess_is_too_long(self):
        for floor, step, seed, part in ((Floor.still(V4, (0,)), 2, 2, 2), (Floor.still(C3, (0,)), 3, 29, 2),
                                        (Floor.still(C3, (0,)), 4, 18, 3), (WALL, 2, 38, 3), (SWAP, 4, 32, 2),
                                        (PLANE, 3, 20, 3), (Floor.still(C2, (0,)), 4, 25, 3)):
            row = slow_change(floor, step - 1, some_row(floor, step - 1, 10 ** 60 // part, seed))
            self.assertTrue(is_row(floor, step, row))
            clean, lower = clean_row(floor, step, row)
            self.assertTrue(is_clean(floor, step, clean))
            self.assertTrue(is_row(floor, step - 1, lower))
            self.assertEqual(row_sum(floor, step, clean, slow_change(floor, step - 1, lower)), row)

    def test_open_rows_are_refused(self):
        self.refused(Refused, clean_row, Floor.still(C2, (0,)), 1, {(1,): (1,)}, reason=("open",))
        self.refused(Refused, clean_row, Z2, 1, {(0,): (1,)}, reason=("open",))
        self.refused(Refused, clean_row, ZS, 2, {(1, 1): (1,)}, reason=("open",))

    def test_closed_rows_at_zero(self):
        for floor in FLOORS:
            for row in list(class_makers(floor, 1)) + [change(floor, 0, some_row(floor, 0, 9, 1))]:
                self.assertNotIn((0,), row)
            row = change(floor, 1, some_row(floor, 1, 9, 1))
            first = row_at(floor, 2, row, (0, 0))
            for member in floor.group:
                self.assertEqual(row_at(floor, 2, row, (0, member)), first)
                self.assertEqual(row_at(floor, 2, row, (member, 0)), floor.moved(member, first))

    def test_changes_of_sums(self):
        row, further = some_row(WALL, 1, 9, 1), some_row(WALL, 1, 9, 2)
        self.assertEqual(change(WALL, 1, row_sum(WALL, 1, row, further)),
                         row_sum(WALL, 2, change(WALL, 1, row), change(WALL, 1, further)))

    def test_not_true(self):
        # a sum of clean rows that is closed, and no change
        self.assertTrue(is_clean(Z2, 1, {(1,): (1,)}))
        self.assertEqual(change(Z2, 1, {(1,): (1,)}), {})
        self.assertIsNone(source_of(Z2, 1, {(1,): (1,)}))
        # closed 1-rows are 0 at (0,), so with a clean one no sum is 1 there
        self.assertNotEqual(change(Z2, 1, {(0,): (1,)}), {})


class MappedTest(Refusals, unittest.TestCase):
    def test_mapped_rows(self):
        double = Floor.still(V4, (0, 2))
        for floor, further, table in ((ZS, Z2, ((1,),)), (ZS, MIXED, ((2,), (-1,))), (SWAP, ZS, ((1, -1),)),
                                      (Floor.still(V4, (4,)), double, ((0,), (1,)))):
            for step in (0, 1, 2):
                row = some_row(floor, step, 9, 1)
                found = mapped_row(floor, further, table, step, row)
                for members in tuples_of(floor.group, step):
                    value = row_at(floor, step, row, members)
                    wanted = tuple(sum(a * b for a, b in zip(line, value)) for line in table)
                    wanted = tuple(entry % rest if rest else entry for entry, rest in zip(wanted, further.rests))
                    self.assertEqual(row_at(further, step, found, members), wanted)
                self.assertEqual(change(further, step, found),
                                 mapped_row(floor, further, table, step + 1, change(floor, step, row)))

    def test_refusals_in_their_order(self):
        for wrong in NO_FLOORS:
            self.refused(InvalidFloor, mapped_row, wrong, Z3, None, None, None)
            self.refused(InvalidFloor, mapped_row, ZS, wrong, None, None, None)
        self.refused(InvalidOperation, mapped_row, ZS, Z3, None, 9, None)
        for wrong in WRONG + (((1, 0),), ((True,),), ((TOO_LONG,),), [(1,)], C2):
            self.refused(InvalidMap, mapped_row, ZS, Z2, wrong, 9, None)
        self.refused(InvalidMap, mapped_row, Z2, ZS, ((1,),), 9, None)
        for wrong in NO_STEPS:
            self.refused_number(mapped_row, wrong, ZS, Z2, ((1,),), wrong, None)
        self.refused(TooMany, mapped_row, ZS, ZS, ((2,),), 1, {(1,): (LONGEST,)}, limit=60)
        self.refused(InvalidRow, mapped_row, ZS, ZS, ((2,),), 1, {(1,): (TOO_LONG,)})


class RegularTest(unittest.TestCase):
    def test_changes_over_great_floors(self):
        for floor in (regular(Q8, 0), regular(S3, 5), regular(C4, 0)):
            row = some_row(floor, 1, 9, 1)
            self.assertEqual(change(floor, 1, row), slow_change(floor, 1, row))


if __name__ == "__main__":
    unittest.main()
