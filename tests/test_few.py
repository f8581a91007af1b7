"""Lists by few tuples, held against those by all clean rows: points 0.11 and 5.4."""

import unittest
from itertools import product

from examples import (A4, C1, C2, C3, C4, C5, C6, D4, E8, GREAT, MIXED, NO_FLOORS, NO_NUMBERS, PLANE, Q8, Refusals, S3,
                      SIGN, SWAP, TWIST, V4, WALL, Z2, Z3, ZS, regular)
from groupsover.base.floors import Floor, fixed_list
from groupsover.base.groups import Group
from groupsover.errors import InvalidFloor, InvalidNumber, TooMany
from groupsover.ladders.ladders import Ladder, is_exact_to
from groupsover.ladders.sums import line_of_row
from groupsover.rows.classes import Classes
from groupsover.rows.closed import class_list
from groupsover.rows.few import FewTuples, few_list

TURN = ((0, 0, 1), (1, 0, 0), (0, 1, 0))
CYCLE = ((0, 0, 0, 1), (1, 0, 0, 0), (0, 1, 0, 0), (0, 0, 1, 0))
# a group, rests, the tables of some members (none for still floors) and the lists of the steps 1, 2, 3, 4
KNOWN = (
    (C2, (0,), {}, ((), (2,), (), (2,))), (C2, (2,), {}, ((2,),) * 4), (C2, (3,), {}, ((),) * 4),
    (C2, (8,), {}, ((2,),) * 4), (C2, (0, 6), {}, ((2,), (2, 2), (2,), (2, 2))), (C2, (2,) * 12, {}, ((2,) * 12,) * 4),
    (C2, (0,), {1: ((-1,),)}, ((2,), (), (2,), ())), (C2, (8,), {1: ((3,),)}, ((),) * 4),
    (C2, (0, 0), {1: ((0, 1), (1, 0))}, ((),) * 4), (C2, (0, 4), {1: ((-1, 0), (1, 1))}, ((2,), (), (2,), ())),
    (C2, (2, 4), {1: ((1, 0), (2, 1))}, ((2,),) * 4),
    (C3, (0,), {}, ((), (3,), (), (3,))), (C3, (3,), {}, ((3,),) * 4), (C3, (3, 3), {}, ((3, 3),) * 4),
    (C3, (9,), {}, ((3,),) * 4), (C3, (4,), {}, ((),) * 4), (C3, (0, 6), {}, ((3,), (3, 3), (3,), (3, 3))),
    (C3, (3,) * 9, {}, ((3,) * 9,) * 4), (C3, (0, 0), {1: ((0, -1), (1, -1))}, ((3,), (), (3,), ())),
    (C3, (9,), {1: ((4,),)}, ((),) * 4), (C3, (3, 3, 3), {1: TURN}, ((),) * 4),
    (C3, (0, 3), {1: ((1, 0), (1, 1))}, ((), (3,), (), (3,))), (C3, (7,), {1: ((2,),)}, ((),) * 4),
    (C4, (0,), {}, ((), (4,), (), (4,))), (C4, (2,), {}, ((2,),) * 4), (C4, (4,), {}, ((4,),) * 4),
    (C4, (6,), {}, ((2,),) * 4), (C4, (12,), {}, ((4,),) * 4), (C4, (0, 0), {}, ((), (4, 4), ())),
    (C4, (0, 4, 8), {}, ((4, 4), (4, 4, 4), (4, 4))), (C4, (0,), {1: ((-1,),)}, ((2,), (), (2,), ())),
    (C4, (8,), {1: ((3,),)}, ((2,),) * 4), (C4, (5,), {1: ((2,),)}, ((),) * 4),
    (C4, (0, 0), {1: ((0, -1), (1, 0))}, ((2,), (), (2,))), (C4, (4, 4), {1: ((0, 1), (1, 0))}, ((2,),) * 3),
    (C4, (2,) * 4, {1: CYCLE}, ((), ())),
    (V4, (0,), {}, ((), (2,) * 2, (2,), (2,) * 3)), (V4, (2,), {}, ((2,) * 2, (2,) * 3, (2,) * 4, (2,) * 5)),
    (V4, (3,), {}, ((),) * 4), (V4, (4,), {}, ((2,) * 2, (2,) * 3, (2,) * 4, (2,) * 5)),
    (V4, (12,), {}, ((2,) * 2, (2,) * 3, (2,) * 4, (2,) * 5)), (V4, (0, 2), {}, ((2,) * 2, (2,) * 5, (2,) * 5)),
    (V4, (2, 2), {}, ((2,) * 4, (2,) * 6, (2,) * 8)), (V4, (0, 4, 6), {}, ((2,) * 4, (2,) * 8, (2,) * 9)),
    (V4, (0,), {1: ((-1,),), 2: ((1,),)}, ((2,), (2,), (2, 2), (2, 2))),
    (V4, (8,), {1: ((3,),), 2: ((5,),)}, ((2,),) * 4),
    (V4, (0, 0), {1: ((0, 1), (1, 0)), 2: ((-1, 0), (0, -1))}, ((2,), (), (2,))),
    (V4, (2,) * 3, {1: ((1, 0, 1), (0, 1, 0), (0, 0, 1)), 2: ((1, 0, 0), (0, 1, 1), (0, 0, 1))},
     ((2,) * 3, (2,) * 4, (2,) * 5)),
    (V4, (0, 2), {1: ((-1, 0), (1, 1)), 2: ((1, 0), (0, 1))}, ((2, 2), (2, 2), (2, 2, 2))))
FLOORS = (Z2, Z3, ZS, PLANE, SIGN, WALL, SWAP, MIXED, TWIST, GREAT, Floor.still(C1, (0, 3)), regular(C2, 4),
          regular(C3, 6), regular(V4, 0), regular(V4, 2), regular(S3, 6), Floor.still(C5, (0, 5)), Floor.still(C6, (0, 6)),
          Floor.still(S3, (0, 6)), Floor.still(D4, (0, 2)), Floor.still(Q8, (4,)), Floor.still(E8, (8,)),
          Floor.still(A4, (0,)), Floor.still(A4, (6,)), Floor.still(Group.round(18), (36,)),
          Floor.made(S3, (9,), {1: ((-1,),), 2: ((-1,),)}), Floor.made(C6, (8, 0), {1: ((3, 4), (0, 1))}),
          Floor.made(Group.round(8), (16, 4, 8), {1: ((13, 0, 0), (0, 1, 3), (6, 0, 1))}))


def is_listed(floor, step):
    """Whether the list of a step is told."""
    return (floor.group.size - 1) ** (step + 1) * floor.places <= 300


def ladder_of(group, height):
    """The ladder of the changes at kept tuples."""
    few = FewTuples(group)
    tables = [tuple(line_of_row(line, len(few.kept_tuples(step - 1))) for line in few.lines(step))
              for step in range(1, height + 1)]
    return Ladder(group, tuple(tables))


class FewTest(Refusals, unittest.TestCase):
    def test_known_lists(self):
        for group, rests, makers, lists in KNOWN:
            floor = Floor.made(group, rests, makers) if makers else Floor.still(group, rests)
            self.assertEqual(tuple(class_list(floor, step) for step in range(1, len(lists) + 1)), lists)
            for step in range(1, 5):
                if step > len(lists):
                    self.refused(TooMany, class_list, floor, step, limit=300)

    def test_lists_by_all_clean_rows(self):
        for floor in FLOORS:
            for step in (1, 2, 3, 4):
                if is_listed(floor, step):
                    self.assertEqual(class_list(floor, step), Classes(floor, step).sizes)
                else:
                    self.refused(TooMany, class_list, floor, step, limit=300)
            self.assertEqual(class_list(floor, 0), fixed_list(floor))

    def test_rounds_come_again_by_two(self):
        for group, rests in product((C2, C3, C4), ((0,), (2,), (3,), (4,), (12,))):
            floor = Floor.still(group, rests)
            for step in (1, 2):
                self.assertEqual(class_list(floor, step), class_list(floor, step + 2))
        for group, rests, makers, lists in KNOWN:
            if group != V4:
                for one, other in zip(lists, lists[2:]):
                    self.assertEqual(one, other)

    def test_kept_tuples_make_exact_ladders(self):
        for group, height in ((C2, 6), (C3, 6), (C4, 6), (V4, 6), (C5, 4), (C6, 4), (S3, 3), (D4, 3), (Q8, 3), (A4, 2)):
            self.assertTrue(is_exact_to(ladder_of(group, height), height))

    def test_kept_tuples_are_few(self):
        for size in range(2, 19):
            few = FewTuples(Group.round(size))
            self.assertEqual([few.kept_tuples(step) for step in (0, 1, 2, 3)],
                             [[()], [(1,)], [(1, size - 1)], [(1, size - 1, 1)]])
        few = FewTuples(V4)
        self.assertEqual([len(few.kept_tuples(step)) for step in range(6)], [1, 2, 3, 4, 5, 6])
        self.assertEqual(few.kept_tuples(2), [(1, 1), (2, 1), (2, 2)])
        few = FewTuples(C1)
        self.assertEqual([few.kept_tuples(step) for step in range(4)], [[()], [], [], []])
        few = FewTuples(S3)
        self.assertEqual([len(few.kept_tuples(step)) for step in range(4)], [1, 2, 6, 13])

    def test_steps_above_those_that_are_asked(self):
        # the lists of V4 with the rest 2 have one integer more each time, those of rounds come again
        self.assertEqual([len(few_list(Floor.still(V4, (2,)), step)) for step in (5, 6, 7)], [6, 7, 8])
        self.assertEqual([few_list(Floor.still(Group.round(12), (0,)), step) for step in (1, 2, 3, 4)],
                         [(), (12,), (), (12,)])
        self.assertEqual([few_list(Floor.still(Q8, (0,)), step) for step in (1, 2, 3, 4)], [(), (2, 2), (), (8,)])

    def test_errors(self):
        self.refuse_in_order(class_list, (ZS, 1), ((0, NO_FLOORS, InvalidFloor), (1, NO_NUMBERS + (-1, 5), InvalidNumber)))
        for group, places, step in ((C2, 12, 4), (C3, 9, 4), (C4, 1, 4), (V4, 1, 4), (V4, 3, 3), (V4, 11, 2), (V4, 12, 1)):
            self.assertEqual(len(class_list(Floor.still(group, (group.size,) * places), step)) % places, 0)
        for group, places, step in ((C3, 10, 4), (C4, 2, 4), (V4, 2, 4), (V4, 4, 3), (C4, 4, 3), (V4, 12, 2), (Q8, 1, 2)):
            self.refused(TooMany, class_list, Floor.still(group, (2,) * places), step, limit=300)
            self.refused_number(class_list, 5, Floor.still(group, (2,) * places), 5)


if __name__ == "__main__":
    unittest.main()
