"""Groups and their parts: points 1.1 to 1.4."""

import unittest
from itertools import combinations, permutations

from examples import (A4, C1, C2, C3, C4, C6, D4, E16, E32, LONGEST, NO_GROUPS, NO_NUMBERS, Q8, S3, S4, TOO_LONG, V4,
                      WRONG, Refusals, Z2)
from groupsover.base import groups
from groupsover.base.groups import (Group, centralizer_of, coset_leaders, few_makers, generated_rounds, group_parts,
                                    is_commuting, is_group_part, made_part, moved_part, normalizer_of, part_group,
                                    prime_part)
from groupsover.errors import InvalidGroup, InvalidNumber, TooMany

GROUPS = (C1, C2, C3, C4, V4, C6, S3, D4, Q8, A4)
PRIMES = (2, 3, 5, 7, 11, 13, 17, 19, 23, 29, 31)


def slow_parts(group):
    """All parts, by asking all sets of members."""
    found = []
    for many in range(group.size):
        for others in combinations(range(1, group.size), many):
            part = (0,) + others
            if all(group.product(one, other) in part for one in part for other in part):
                found.append(part)
    return found


class GroupTest(Refusals, unittest.TestCase):
    def test_the_example(self):
        self.assertEqual([S3.size, S3.moves[3], S3.product(1, 2), S3.order(3), S3.inverse(3),
                          coset_leaders(S3, (0, 1)), prime_part(S3, 3), str(V4), V4.product(1, 3)],
                         [6, (1, 2, 0), 4, 3, 4, (0, 2, 3), (0, 3, 4), 'group of 4 members on 4 places', 2])

    def test_constants(self):
        self.assertEqual((groups.MAX_SIZE, groups.MAX_PLACES), (32, 32))

    def test_members_are_ascending_renamings(self):
        self.assertEqual(S3.moves, tuple(permutations(range(3))))
        self.assertEqual(S4.moves, tuple(permutations(range(4))))
        for group in GROUPS:
            self.assertEqual(group.moves, tuple(sorted(group.moves)))
            self.assertEqual(len(group.moves), group.size)
            self.assertEqual(group.moves[0], tuple(range(len(group.moves[0]))))

    def test_products_lead_places(self):
        for group in GROUPS:
            for one in range(group.size):
                self.assertEqual(group.product(one, group.inverse(one)), 0)
                self.assertEqual(group.product(group.inverse(one), one), 0)
                for other in range(group.size):
                    led = tuple(group.moves[one][place] for place in group.moves[other])
                    self.assertEqual(group.moves[group.product(one, other)], led)

    def test_powers_and_orders(self):
        for group in GROUPS:
            for member in range(group.size):
                power = 0
                powers = []
                for number in range(group.order(member)):
                    self.assertEqual(group.power(member, number), power)
                    self.assertEqual(group.power(member, -number), group.inverse(power))
                    powers.append(power)
                    power = group.product(power, member)
                self.assertEqual(power, 0)
                self.assertEqual(powers.count(0), 1)
        self.assertEqual(C3.power(1, 10 ** 59), 1)
        self.assertEqual(C3.power(1, -LONGEST - 0), 0)
        self.assertEqual(C2.power(1, LONGEST), 1)

    def test_sizes_of_1_and_32(self):
        self.assertEqual((C1.size, C1.moves, C1.order(0), C1.power(0, -5)), (1, ((0,),), 1, 0))
        self.assertEqual(Group.round(32).size, 32)
        self.assertEqual(Group.round(32).order(1), 32)
        self.assertEqual(E32.size, 32)
        self.assertEqual(sorted({E32.order(member) for member in E32}), [1, 2])
        self.assertEqual(Group((tuple(range(32)),)).size, 1)

    def test_one_to_four_renamings(self):
        ones = tuple(tuple(range(2 * k)) + (2 * k + 1, 2 * k) + tuple(range(2 * k + 2, 10)) for k in range(5))
        for many in (1, 2, 3, 4):
            self.assertEqual(Group(ones[:many]).size, 2 ** many)
        self.refused(InvalidGroup, Group, ones)
        self.refused(InvalidGroup, Group, ())

    def test_more_than_32_members(self):
        self.refused(TooMany, Group, ((1, 2, 3, 4, 0), (1, 0, 2, 3, 4)), limit=32)
        # one renaming of order 33
        self.refused(TooMany, Group, (tuple((k + 1) % 11 for k in range(11)) + (12, 13, 11),), limit=32)
        self.assertEqual(Group(((1, 2, 3, 0), (1, 0, 2, 3))).size, 24)

    def test_wrong_moves(self):
        for wrong in WRONG + (C2, Z2, [(0, 1)], ([0, 1],), ((0, 1), (0, 1, 2)), ((),), ((0, 2),), ((1, 2),), ((0, 0),),
                              ((False, True),), ((0, True),), (("0",),), ((0, None),), (tuple(range(33)),),
                              ((0, -1),), (C2,), ({0: 0},), ((0, TOO_LONG),), (0, 1)):
            self.refused(InvalidGroup, Group, wrong)

    def test_rounds(self):
        for size in (1, 2, 7, 32):
            group = Group.round(size)
            self.assertEqual((group.size, len(group.moves[0])), (size, size))
            self.assertIn(tuple(list(range(1, size)) + [0]), group.moves)
        for wrong in NO_NUMBERS + (0, 33, -1):
            self.refused_number(Group.round, wrong, wrong)

    def test_both(self):
        for one in (C1, C2, C3, S3):
            for other in (C1, C2, V4, C4):
                group = Group.both(one, other)
                self.assertEqual(group.size, one.size * other.size)
                self.assertEqual(len(group.moves[0]), len(one.moves[0]) + len(other.moves[0]))
                self.assertEqual(group.moves, tuple(sorted(group.moves)))
                for g in one:
                    for h in other:
                        places = len(one.moves[0])
                        move = one.moves[g] + tuple(places + place for place in other.moves[h])
                        self.assertEqual(group.moves[g * other.size + h], move)
                        self.assertEqual(group.product(g * other.size, h), g * other.size + h)

    def test_both_is_refused(self):
        for wrong in NO_GROUPS:
            self.refused(InvalidGroup, Group.both, wrong, C2)
            self.refused(InvalidGroup, Group.both, C2, wrong)
            self.refused(InvalidGroup, Group.both, Group.round(32), wrong)
        self.refused(TooMany, Group.both, S3, S3, limit=32)
        self.refused(TooMany, Group.both, E32, C2, limit=32)
        still = Group((tuple(range(32)),))
        self.refused(TooMany, Group.both, still, C1, limit=32)
        self.assertEqual(Group.both(Group((tuple(range(31)),)), C1).size, 1)
        self.assertEqual(Group.both(E16, C2).size, 32)

    def test_wrong_members(self):
        for wrong in NO_NUMBERS + (-1, 6, 32):
            self.refused_number(S3.product, wrong, wrong, 0)
            self.refused_number(S3.product, wrong, 0, wrong)
            self.refused_number(S3.inverse, wrong, wrong)
            self.refused_number(S3.order, wrong, wrong)
            self.refused_number(S3.power, wrong, wrong, 1)
        for wrong in NO_NUMBERS:
            self.refused_number(S3.power, wrong, 1, wrong)
        self.refused(InvalidNumber, S3.product, 7, 8, given=7)
        self.refused(InvalidNumber, S3.power, 7, TOO_LONG, given=7)
        self.refused(InvalidNumber, S3.power, 1, -TOO_LONG, given=-TOO_LONG)

    def test_equality(self):
        self.assertTrue(S3 == Group(((1, 0, 2), (0, 2, 1))))
        self.assertFalse(S3 != Group(((1, 0, 2), (0, 2, 1))))
        self.assertTrue(E32 == Group.both(C2, E16))
        self.assertFalse(C4 == V4)
        self.assertTrue(C4 != V4)
        for other in NO_GROUPS + (S3.moves, 6):
            self.assertFalse(S3 == other)
            self.assertTrue(S3 != other)

    def test_length_iteration_text(self):
        for group in GROUPS:
            self.assertEqual(len(group), group.size)
            self.assertEqual(list(group), list(range(group.size)))
            self.assertEqual([member for member in group], list(group))
        self.assertEqual(str(S3), "group of 6 members on 3 places")
        self.assertEqual(str(C1), "group of 1 members on 1 places")

    def test_groups_do_not_change(self):
        for name in ("size", "moves"):
            with self.assertRaises(AttributeError):
                setattr(S3, name, 5)
        self.assertEqual(S3.size, 6)


class PartTest(Refusals, unittest.TestCase):
    def test_parts(self):
        for group in GROUPS:
            slow = slow_parts(group)
            self.assertEqual(group_parts(group), tuple(sorted(slow, key=lambda part: (len(part), part))))
            for part in slow:
                self.assertTrue(is_group_part(group, part))
        self.assertEqual(len(group_parts(S4)), 30)
        self.assertEqual(len(group_parts(E16)), 67)

    def test_24_members_and_more(self):
        self.assertEqual(len(group_parts(Group.round(24))), 8)
        self.refused(TooMany, group_parts, Group.round(25), limit=24)
        self.refused(TooMany, group_parts, E32, limit=24)

    def test_no_parts(self):
        for wrong in WRONG + ((), (1,), (0, 3), (1, 0), (0, 0, 1), (0, 6), [0, 1], (0, True), (False, 1), (0, "1"),
                              (0, None), (0, -1), (0, TOO_LONG), (0, (1,)), S3, Z2, ((0,),), (0, [1]), (0, S3)):
            self.assertIs(is_group_part(S3, wrong), False)
            for call in (coset_leaders, part_group, is_commuting, normalizer_of, centralizer_of):
                self.refused(InvalidGroup, call, S3, wrong)
            self.refused(InvalidGroup, moved_part, S3, wrong, 99)
        self.assertIs(is_group_part(S3, (0, 1)), True)

    def test_wrong_groups(self):
        for wrong in NO_GROUPS:
            for call in (group_parts, generated_rounds):
                self.refused(InvalidGroup, call, wrong)
            for call in (is_group_part, made_part, coset_leaders, part_group, prime_part, is_commuting, normalizer_of,
                         centralizer_of):
                self.refused(InvalidGroup, call, wrong, (0,))
                self.refused(InvalidGroup, call, wrong, None)
            self.refused(InvalidGroup, moved_part, wrong, (0,), 0)

    def test_made_parts(self):
        for group in GROUPS:
            parts = slow_parts(group)
            for many in (0, 1, 2):
                for members in combinations(range(group.size), many):
                    least = min([part for part in parts if set(members) <= set(part)], key=len)
                    self.assertEqual(made_part(group, members), least)
                    self.assertEqual(made_part(group, members[::-1] * 3), least)
        self.assertEqual(made_part(E32, (1,) * 32), (0, 1))
        for wrong in WRONG + ((6,), (-1,), (True,), ("0",), (1,) * 33, [1], (None,), (TOO_LONG,), S3, (S3,)):
            self.refused(InvalidGroup, made_part, S3, wrong)

    def test_coset_leaders(self):
        for group in GROUPS:
            for part in group_parts(group):
                cosets = {tuple(sorted(group.product(inner, member) for inner in part)) for member in group}
                leaders = coset_leaders(group, part)
                self.assertEqual(leaders, tuple(sorted(min(coset) for coset in cosets)))
                self.assertEqual(len(leaders), group.size // len(part))
                self.assertEqual(leaders[0], 0)
        # the cosets are those behind the part, not those ahead of it
        self.assertEqual(coset_leaders(S3, (0, 2)), (0, 1, 4))

    def test_part_groups(self):
        for group in GROUPS + (S4,):
            for part in group_parts(group):
                inner = part_group(group, part)
                self.assertEqual(inner.moves, tuple(group.moves[member] for member in part))
                for one in inner:
                    for other in inner:
                        self.assertEqual(part[inner.product(one, other)], group.product(part[one], part[other]))
        self.assertEqual(part_group(E32, tuple(range(32))), E32)

    def test_moved_parts(self):
        for group in (S3, D4, A4):
            for part in group_parts(group):
                for member in group:
                    moved = moved_part(group, part, member)
                    back = group.inverse(member)
                    wanted = sorted(group.product(group.product(member, inner), back) for inner in part)
                    self.assertEqual(moved, tuple(wanted))
                    self.assertTrue(is_group_part(group, moved))
        for wrong in NO_NUMBERS + (6, -1):
            self.refused_number(moved_part, wrong, S3, (0, 1), wrong)

    def test_prime_parts(self):
        for group in GROUPS + (S4, E32, Group.round(30), Group.round(31)):
            for prime in PRIMES:
                part = prime_part(group, prime)
                self.assertTrue(is_group_part(group, part))
                self.assertNotEqual(group.size // len(part) % prime, 0)
                size = len(part)
                while size % prime == 0:
                    size //= prime
                self.assertEqual(size, 1)
        for group in GROUPS:
            for prime in (2, 3):
                part = prime_part(group, prime)
                moved = {moved_part(group, part, member) for member in group}
                self.assertEqual(moved, {other for other in group_parts(group) if len(other) == len(part)})
        for wrong in NO_NUMBERS + (0, 1, 4, 9, 15, 25, 27, 33, 37, -2, -3):
            self.refused_number(prime_part, wrong, S3, wrong)

    def test_members_that_commute(self):
        for group in GROUPS:
            rounds = {tuple(sorted({group.power(member, number) for number in range(group.size)})) for member in group}
            self.assertEqual(generated_rounds(group), tuple(sorted(rounds)))
            for part in group_parts(group):
                commuting = all(group.product(one, other) == group.product(other, one)
                                for one in part for other in part)
                self.assertIs(is_commuting(group, part), commuting)
                self.assertEqual(normalizer_of(group, part),
                                 tuple(member for member in group if moved_part(group, part, member) == part))
                self.assertEqual(centralizer_of(group, part),
                                 tuple(member for member in group
                                       if all(group.product(member, inner) == group.product(inner, member)
                                              for inner in part)))

    def test_not_true_that_there_is_a_part_of_each_size(self):
        self.assertEqual(A4.size, 12)
        self.assertEqual(sorted({len(part) for part in group_parts(A4)}), [1, 2, 3, 4, 12])

    def test_few_makers(self):
        for group in GROUPS + (E32, C1, Group.round(32), Group.both(V4, C6), Group.both(D4, C3)):
            makers, made = (), (0,)
            while len(made) < group.size:
                # the least member that makes the most beside those ahead of it
                parts = [made_part(group, makers + (member,)) for member in group]
                many = max(len(part) for part in parts)
                member = [len(part) for part in parts].index(many)
                makers, made = makers + (member,), parts[member]
            self.assertEqual(few_makers(group), makers or (0,))
        self.assertEqual([few_makers(group) for group in (C1, C4, V4, S3, E32)],
                         [(0,), (1,), (1, 2), (3, 1), (1, 2, 4, 8, 16)])

    def test_equal_calls(self):
        self.assertEqual(prime_part(S4, 2), prime_part(Group(((0, 1, 3, 2), (1, 2, 3, 0))), 2))
        self.assertEqual(group_parts(S3), group_parts(Group(((0, 2, 1), (2, 1, 0)))))


if __name__ == "__main__":
    unittest.main()
