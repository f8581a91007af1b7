"""The reckoning behind ladders, triples and rounds: sparse rows, equations of integers, and lists."""

import random
import unittest
from itertools import product
from math import gcd

from groupsover.base.equations import Equations, Solver
from groupsover.base.minors import steps_of_rows
from groupsover.base.same_maps import OneToOne, is_full_modulo, primes_of
from groupsover.base.sparse import are_steps_one, rank_of_rows, torsion_list


def some_rows(source, high, wide, bound, share):
    """Rows of few entries, as dicts."""
    return [{column: entry for column in range(wide) if source.random() < share
             and (entry := source.randint(-bound, bound))} for _ in range(high)]


def dense(rows, wide):
    """Rows as a table."""
    return [[row.get(column, 0) for column in range(wide)] for row in rows]


class SparseTest(unittest.TestCase):
    def test_ranks_and_steps(self):
        source = random.Random(1)
        for trial in range(300):
            high, wide = source.randint(1, 6), source.randint(1, 6)
            rows = some_rows(source, high, wide, source.choice((1, 2, 6)), source.choice((0.3, 0.6, 1)))
            steps = steps_of_rows(dense(rows, wide))
            self.assertEqual(rank_of_rows(rows), len(steps))
            for rank in range(7):
                self.assertIs(are_steps_one(rows, rank), len(steps) == rank and all(step == 1 for step in steps))

    def test_torsion(self):
        source = random.Random(2)
        for order in (1, 2, 4, 6, 8, 12, 36, 30, 210):
            divisors = [step for step in range(1, order + 1) if order % step == 0]
            for trial in range(20):
                steps = [source.choice(divisors + [0]) for _ in range(source.randint(1, 5))]
                rows = [{at: step} for at, step in enumerate(steps) if step] + [{}]
                for _ in range(12):
                    one, other = source.sample(range(len(rows)), 2) if len(rows) > 1 else (0, 0)
                    if one != other:
                        times = source.randint(-2, 2)
                        rows[one] = {spot: entry for spot in range(5)
                                     if (entry := rows[one].get(spot, 0) + times * rows[other].get(spot, 0))}
                    left, right = source.sample(range(5), 2)
                    rows = [{spot: entry for spot in range(5)
                             if (entry := row.get(spot, 0) + (row.get(left, 0) if spot == right else 0))} for row in rows]
                wanted = tuple(step for step in steps_of_rows(dense(rows, 5)) if step > 1)
                if all(order % step == 0 for step in wanted):
                    self.assertEqual(torsion_list(rows, order), wanted)

    def test_primes(self):
        self.assertEqual([primes_of(number) for number in (1, 2, 12, 97, 9973, 10000)],
                         [[], [2], [2, 3], [97], [9973], [2, 5]])
        self.assertTrue(is_full_modulo([[0, 1], [1, 0]], 2))
        self.assertFalse(is_full_modulo([[1, 1], [1, 1]], 2))
        self.assertTrue(is_full_modulo([[1, 1], [1, -1]], 3))
        self.assertFalse(is_full_modulo([[1, 1], [1, -1]], 2))

    def test_one_to_one(self):
        for rests in ((4, 6), (2, 8), (3, 9), (2, 2), (5,)):
            values = list(product(*[range(rest) for rest in rests]))
            asked = OneToOne(rests)
            for table in product(*[list(product(range(rest), repeat=len(rests))) for rest in rests]):
                if all(entry * rest % goal == 0 for row, goal in zip(table, rests) for entry, rest in zip(row, rests)):
                    led = {tuple(sum(a * b for a, b in zip(row, value)) % rest for row, rest in zip(table, rests))
                           for value in values}
                    self.assertIs(asked.does_fit(table), len(led) == len(values))


class EquationsTest(unittest.TestCase):
    def test_solutions(self):
        source = random.Random(3)
        for trial in range(160):
            high, many = source.randint(1, 6), source.randint(1, 6)
            rows = some_rows(source, high, many, source.choice((1, 2, 9)), source.choice((0.4, 0.8)))
            rests = [source.choice((0, 0, 2, 6, 9)) for _ in range(high)]
            if trial % 4 == 0:
                rests = [rest or 4 for rest in rests]
            known = [source.randint(-9, 9) for _ in range(many)]
            reached = {at: sum(row[spot] * known[spot] for spot in row) for at, row in enumerate(rows)}
            goals = [reached, {at: source.randint(-3, 3) for at in range(high)}]
            solver = Solver(rests, rows, many, goals)
            for times in ({0: 1}, {0: 10 ** 70}, {1: 1}, {0: 3, 1: 4}, {}):
                wanted = [sum(times[index] * goals[index].get(at, 0) for index in times) for at in range(high)]
                found = solver.solved(times)
                if found is not None:
                    self.assertEqual(len(found), many)
                    for row, rest, goal in zip(rows, rests, wanted):
                        left = sum(row[spot] * found[spot] for spot in row) - goal
                        self.assertEqual(left % rest if rest else left, 0)
                else:
                    self.assertIn(1, times)
                    self.assertTrue(self.has_bar(rests, rows, many, wanted))

    def has_bar(self, rests, rows, many, wanted):
        """Whether the steps of all columns and rests change with the wanted column: then it is no sum of them."""
        high = len(rests)
        table = [[rows[at].get(spot, 0) for spot in range(many)] + [rests[at] if k == at else 0 for k in range(high)]
                 for at in range(high)]
        further = [line + [goal] for line, goal in zip(table, wanted)]
        return steps_of_rows(table) != steps_of_rows(further)

    def test_idle_unknowns(self):
        source = random.Random(4)
        for trial in range(200):
            high, many = source.randint(1, 4), source.randint(1, 6)
            rows = some_rows(source, high, many, 6, 0.7)
            equations = Equations(rows, many)
            idle = equations.idle()
            self.assertEqual(len(idle), many - rank_of_rows(rows))
            for one in idle:
                for row in rows:
                    self.assertEqual(sum(row[spot] * one[spot] for spot in row), 0)
            if idle:
                # they are all that is idle, not multiples
                self.assertTrue(all(step == 1 for step in steps_of_rows(idle)))
                self.assertEqual(len(steps_of_rows(idle)), len(idle))

    def test_short_results(self):
        source = random.Random(5)
        for trial in range(100):
            many = source.randint(2, 5)
            rows = some_rows(source, source.randint(1, many - 1), many, 3, 0.8)
            known = [source.randint(-10 ** 59, 10 ** 59) for _ in range(many)]
            reached = {at: sum(row[spot] * known[spot] for spot in row) for at, row in enumerate(rows)}
            found = Solver([0] * len(rows), rows, many, [reached]).solved({0: 1})
            self.assertTrue(all(abs(entry) < 10 ** 60 for entry in found))
            self.assertEqual(gcd(0, sum(row[spot] * found[spot] for row in rows[:1] for spot in row) - reached[0]), 0)


if __name__ == "__main__":
    unittest.main()
