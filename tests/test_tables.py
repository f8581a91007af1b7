"""Tables of integers: points 3.1 to 3.8."""

import random
import unittest
from itertools import combinations, product
from math import gcd, lcm

from examples import C2, LONGEST, NO_NUMBERS, Refusals, TOO_LONG, WRONG, Z2, orders_in_list
from groupsover.base import tables
from groupsover.base.tables import (bar, determinant, is_bar, is_lattice_test, is_solution, is_table, lattice_test,
                                    list_of, made_list, order_in, quotient_list, rank_of, solution, steps_of,
                                    table_product, unit_table, zero_list)
from groupsover.errors import InvalidNumber, InvalidOperation, InvalidRow, InvalidTable, TooMany

SOME = ((2, 4, 4), (-6, 6, 12), (10, 4, 16))
NO_TABLES = WRONG + ((), ((),), ((), ()), (1,), ((1, 2), (3,)), [(1,)], ([1],), ((True,),), (("1",),), ((None,),),
                     ((TOO_LONG,),), ((-TOO_LONG,),), ((1,),) * 41, ((1,) * 41,), C2, Z2, (C2,), ((C2,),), {0: (1,)},
                     (((1,),),), ((1,), None))


def slow_determinant(rows):
    if not rows:
        return 1
    return sum((-1) ** at * rows[0][at] * slow_determinant([row[:at] + row[at + 1:] for row in rows[1:]])
               for at in range(len(rows)) if rows[0][at])


def slow_steps(table):
    """The steps, by all determinants."""
    divisors = [1]
    for many in range(1, min(len(table), len(table[0])) + 1):
        divisor = 0
        for rows in combinations(table, many):
            for columns in combinations(range(len(table[0])), many):
                divisor = gcd(divisor, slow_determinant([[row[at] for at in columns] for row in rows]))
        if divisor == 0:
            break
        divisors.append(divisor)
    return tuple(high // low for low, high in zip(divisors, divisors[1:]))


def orders_of(members, modulus):
    """How many of some tuples modulo a number have each order."""
    found = {}
    for member in members:
        order = lcm(1, *[modulus // gcd(entry, modulus) for entry in member])
        found[order] = found.get(order, 0) + 1
    return found


def some_table(source, height, width, bound):
    return tuple(tuple(source.randint(-bound, bound) * source.choice((0, 1, 1, 2)) for _ in range(width))
                 for _ in range(height))


class TableTest(Refusals, unittest.TestCase):
    def test_the_example(self):
        self.assertEqual([steps_of(SOME), rank_of(((1, 2), (2, 4))), determinant(SOME), steps_of(((4, 0), (0, 6))),
                          list_of((4, 6, 0, 1))],
                         [(2, 2, 156), 1, 624, (2, 12), (2, 12, 0)])

    def test_constants(self):
        self.assertEqual((tables.MAX_SIDE, tables.MAX_MODULUS), (40, 1000000))

    def test_what_is_a_table(self):
        for wrong in NO_TABLES:
            self.assertIs(is_table(wrong), False)
        for right in (((0,),), ((1, 2),), ((1,), (2,)), ((LONGEST, -LONGEST),), ((7,) * 40,) * 40):
            self.assertIs(is_table(right), True)

    def test_wrong_tables(self):
        for wrong in NO_TABLES:
            for call in (steps_of, rank_of, determinant, quotient_list):
                self.refused(InvalidTable, call, wrong)
            self.refused(InvalidTable, table_product, wrong, None)
            self.refused(InvalidTable, table_product, wrong, ((1,),))
            self.refused(InvalidTable, table_product, ((1,),), wrong)
            for call in (solution, bar):
                self.refused(InvalidTable, call, wrong, None, None)
            for call in (is_solution, is_bar):
                self.refused(InvalidTable, call, wrong, None, None, None)
            for call in (zero_list, made_list, order_in, lattice_test):
                self.refused(InvalidTable, call, wrong, None)
            self.refused(InvalidTable, is_lattice_test, wrong, None, None)

    def test_products(self):
        self.assertEqual(table_product(((1, 2), (3, 4)), ((0, 1), (1, 0))), ((2, 1), (4, 3)))
        self.assertEqual(table_product(((1, 2, 3),), ((4,), (5,), (6,))), ((32,),))
        self.assertEqual(table_product(((4,), (5,)), ((1, 2, 3),)), ((4, 8, 12), (5, 10, 15)))
        self.assertEqual(table_product(((LONGEST,),), ((LONGEST,),)), ((LONGEST ** 2,),))
        self.refused(InvalidOperation, table_product, ((1, 2),), ((1, 2),))
        self.refused(InvalidTable, table_product, ((1, 2),), ((1, 2), (3,)))

    def test_unit_tables(self):
        for size in (1, 2, 40):
            unit = unit_table(size)
            self.assertEqual(unit, tuple(tuple(int(row == column) for column in range(size)) for row in range(size)))
            self.assertEqual((determinant(unit), steps_of(unit), rank_of(unit)), (1, (1,) * size, size))
        for wrong in NO_NUMBERS + (0, 41, -1):
            self.refused_number(unit_table, wrong, wrong)

    def test_steps_by_all_determinants(self):
        source = random.Random(1)
        for _ in range(400):
            height, width = source.randint(1, 4), source.randint(1, 4)
            table = some_table(source, height, width, source.choice((2, 6, 30)))
            steps = slow_steps(table)
            self.assertEqual(steps_of(table), steps)
            self.assertEqual(rank_of(table), len(steps))
            if height == width:
                self.assertEqual(determinant(table), slow_determinant([list(row) for row in table]))

    def test_steps_stay(self):
        source = random.Random(2)
        for _ in range(60):
            table = some_table(source, 3, 4, 9)
            steps = steps_of(table)
            self.assertEqual(steps_of((table[2], table[0], table[1])), steps)
            self.assertEqual(steps_of((tuple(-entry for entry in table[0]),) + table[1:]), steps)
            added = tuple(one + 5 * other for one, other in zip(table[0], table[1]))
            self.assertEqual(steps_of((added,) + table[1:]), steps)
            self.assertEqual(steps_of(tuple(zip(*table))), steps)
            for low, high in zip(steps, steps[1:]):
                self.assertEqual(high % low, 0)

    def test_steps_of_edges(self):
        self.assertEqual(steps_of(((0,),)), ())
        self.assertEqual(steps_of(((-6,),)), (6,))
        self.assertEqual(steps_of(((0, 0), (0, 0))), ())
        self.assertEqual(steps_of(((LONGEST,),)), (LONGEST,))
        self.assertEqual(steps_of(((LONGEST, 0), (0, LONGEST))), (LONGEST, LONGEST))
        self.assertEqual((determinant(((0,),)), determinant(((-6,),)), determinant(((0, 1), (1, 0)))), (0, -6, -1))
        self.assertEqual(determinant(((1, 2), (2, 4))), 0)
        self.refused(InvalidOperation, determinant, ((1, 2),))
        self.refused(InvalidOperation, determinant, ((1,), (2,)))

    def test_great_tables(self):
        source = random.Random(3)
        left = [[int(row == column) for column in range(40)] for row in range(40)]
        for row in range(40):
            for other in range(row):
                times = source.randint(-2, 2)
                left[row] = [one + times * two for one, two in zip(left[row], left[other])]
        sizes = [1] * 30 + [2] * 5 + [6, 6, 12, 60, 0]
        table = tuple(tuple(sizes[at] * entry for at, entry in enumerate(row)) for row in left)
        self.assertEqual(steps_of(table), tuple(sizes[:-1]))
        self.assertEqual(quotient_list(table), tuple(sizes[30:]))
        self.assertEqual(determinant(table), 0)
        great = tuple(tuple(source.randint(-LONGEST, LONGEST) for _ in range(40)) for _ in range(40))
        steps = steps_of(great)
        size = 1
        for step in steps:
            size *= step
        self.assertEqual(abs(determinant(great)), size)
        self.assertEqual(rank_of(great), 40)
        self.assertEqual(steps_of(great[:39] + (great[0],)), steps_of(great[:39]))


class ModuloTest(Refusals, unittest.TestCase):
    def test_solutions_and_bars_by_all_tuples(self):
        source = random.Random(4)
        seen = {True: 0, False: 0}
        for _ in range(500):
            height, width = source.randint(1, 3), source.randint(1, 3)
            modulus = source.choice((2, 3, 4, 6, 8, 9, 12))
            table = some_table(source, height, width, 9)
            values = tuple(source.randint(-9, 9) for _ in range(height))
            solved = {x for x in product(range(modulus), repeat=width)
                      if all((sum(a * b for a, b in zip(row, x)) - goal) % modulus == 0
                             for row, goal in zip(table, values))}
            barred = {y for y in product(range(modulus), repeat=height)
                      if all(sum(a * b for a, b in zip(column, y)) % modulus == 0 for column in zip(*table))
                      and sum(a * b for a, b in zip(values, y)) % modulus}
            found, other = solution(table, values, modulus), bar(table, values, modulus)
            self.assertEqual(found is None, not solved)
            self.assertEqual(other is None, not barred)
            self.assertNotEqual(found is None, other is None)
            if found is not None:
                self.assertIn(found, solved)
            else:
                self.assertIn(other, barred)
            seen[found is None] += 1
            for x in product(range(modulus), repeat=width):
                if source.random() < 0.1 or x in solved:
                    self.assertIs(is_solution(table, values, modulus, x), x in solved)
            for y in product(range(modulus), repeat=height):
                if source.random() < 0.1 or y in barred:
                    self.assertIs(is_bar(table, values, modulus, y), y in barred)
        self.assertGreater(min(seen.values()), 100)

    def test_moduli(self):
        for modulus in (2, 1000000, 999983, 720720):
            self.assertEqual(solution(((1,),), (-1,), modulus), (modulus - 1,))
            self.assertIsNone(bar(((1,),), (-1,), modulus))
            self.assertIsNone(solution(((0,),), (1,), modulus))
            self.assertTrue(is_bar(((0,),), (1,), modulus, bar(((0,),), (1,), modulus)))
            self.assertEqual(zero_list(((0,),), modulus), (modulus,))
            self.assertEqual(made_list(((1,),), modulus), (modulus,))
        for wrong in NO_NUMBERS + (0, 1, -2, 1000001):
            for call in (solution, bar):
                self.refused_number(call, wrong, ((1,),), (1,), wrong)
            for call in (is_solution, is_bar):
                self.refused_number(call, wrong, ((1,),), (1,), wrong, (1,))
            for call in (zero_list, made_list):
                self.refused_number(call, wrong, ((1,),), wrong)

    def test_wrong_values(self):
        for wrong in WRONG + ((), (1,), (1, 2, 3), [1, 2], (1, True), (1, None), (1, TOO_LONG), C2, (1, (2,))):
            for call in (solution, bar):
                self.refused(InvalidRow, call, ((1,), (2,)), wrong, None)
            for call in (is_solution, is_bar):
                self.refused(InvalidRow, call, ((1,), (2,)), wrong, None, None)
        self.assertEqual(solution(((2, 0), (0, 3)), (LONGEST, -LONGEST), 7),
                         (LONGEST * 4 % 7, -LONGEST * 5 % 7))

    def test_wrong_judged_values(self):
        for wrong in WRONG + ((), (1,), (1, 0, 0), [1, 0], (True, 0), (1, False), (6, 0), (-4, 0), (1, TOO_LONG), C2):
            self.assertIs(is_solution(((1, 0), (0, 1)), (1, 0), 5, wrong), False)
            self.assertIs(is_bar(((0, 0), (0, 1)), (1, 0), 5, wrong), False)
        self.assertIs(is_solution(((1, 0), (0, 1)), (1, 0), 5, (1, 0)), True)
        self.assertIs(is_solution(((1, 0), (0, 1)), (6, -5), 5, (1, 0)), True)
        self.assertIs(is_bar(((0, 0), (0, 1)), (1, 0), 5, (1, 0)), True)
        self.assertIs(is_bar(((0, 0), (0, 1)), (5, 0), 5, (1, 0)), False)

    def test_forty_rows(self):
        source = random.Random(5)
        table = tuple(tuple(source.randint(-LONGEST, LONGEST) for _ in range(40)) for _ in range(40))
        values = tuple(source.randint(-LONGEST, LONGEST) for _ in range(40))
        for modulus in (2, 4, 30030, 1000000):
            found, other = solution(table, values, modulus), bar(table, values, modulus)
            self.assertNotEqual(found is None, other is None)
            if found is not None:
                self.assertTrue(is_solution(table, values, modulus, found))
            else:
                self.assertTrue(is_bar(table, values, modulus, other))

    def test_lists_by_all_tuples(self):
        source = random.Random(6)
        for _ in range(150):
            height, width = source.randint(1, 3), source.randint(1, 3)
            modulus = source.choice((2, 4, 6, 8, 9, 12))
            table = some_table(source, height, width, 9)
            led = {x: tuple(sum(a * b for a, b in zip(row, x)) % modulus for row in table)
                   for x in product(range(modulus), repeat=width)}
            zeros, made = zero_list(table, modulus), made_list(table, modulus)
            self.assertEqual(orders_in_list(zeros), orders_of([x for x in led if not any(led[x])], modulus))
            self.assertEqual(orders_in_list(made), orders_of(set(led.values()), modulus))
            for numbers in (zeros, made):
                self.assertTrue(all(number > 1 for number in numbers))
                self.assertTrue(all(high % low == 0 for low, high in zip(numbers, numbers[1:])))

    def test_not_true_that_divisors_decide(self):
        table, values = ((0,),), (2,)
        self.assertEqual(solution(table, values, 2), (0,))
        self.assertIsNone(solution(table, values, 4))


class LatticeTest(Refusals, unittest.TestCase):
    def test_list_of(self):
        self.assertEqual(list_of(()), ())
        self.assertEqual(list_of((1, 1)), ())
        self.assertEqual(list_of((0, 6, 4, 0, 10)), (2, 2, 60, 0, 0))
        self.assertEqual(list_of((0,) * 40), (0,) * 40)
        self.assertEqual(list_of((LONGEST, LONGEST)), (LONGEST, LONGEST))
        source = random.Random(7)
        for _ in range(60):
            sizes = tuple(source.randint(1, 12) for _ in range(source.randint(0, 3)))
            found = list_of(sizes)
            self.assertEqual(orders_in_list(found), orders_in_list(sizes))
            self.assertTrue(all(number > 1 for number in found))
            self.assertTrue(all(high % low == 0 for low, high in zip(found, found[1:])))
        for wrong in WRONG + ((-1,), (True,), ("2",), [2], (None,), (TOO_LONG,), (2,) * 41, C2, ((2,),)):
            self.refused(InvalidRow, list_of, wrong)

    def test_quotients(self):
        self.assertEqual(quotient_list(SOME), (2, 2, 156))
        self.assertEqual(quotient_list(((1, 0, 0), (0, 1, 0))), (0,))
        self.assertEqual(quotient_list(((0, 0),)), (0, 0))
        self.assertEqual(quotient_list(((4, 0), (0, 6), (0, 0))), (2, 12))
        self.assertEqual(quotient_list(((2, 4), (3, 6))), (0,))

    def test_orders_and_tests(self):
        source = random.Random(8)
        seen = {}
        for _ in range(400):
            height, width = source.randint(1, 3), source.randint(1, 3)
            rows = some_table(source, height, width, 6)
            x = tuple(source.randint(-6, 6) for _ in range(width))
            if source.random() < 0.5:
                times = [source.randint(-2, 2) for _ in rows]
                x = tuple(sum(time * row[at] for time, row in zip(times, rows)) for at in range(width))
                x = tuple(entry // 2 for entry in x) if all(entry % 2 == 0 for entry in x) else x
            order, test = order_in(rows, x), lattice_test(rows, x)
            # an order is that of x in the quotient: adding x to the rows divides the quotient by it
            if order:
                self.assertEqual(rank_of(rows + (x,)), rank_of(rows))
                for times in range(1, order + 1):
                    several = tuple(times * entry for entry in x)
                    inside = steps_of(rows + (several,)) == steps_of(rows)
                    self.assertIs(inside, times == order)
                    self.assertIs(lattice_test(rows, several) is None, inside)
            else:
                self.assertEqual(rank_of(rows + (x,)), rank_of(rows) + 1)
            self.assertEqual(test is None, order == 1)
            if test is not None:
                self.assertTrue(is_lattice_test(rows, x, test))
                self.assertTrue(all(gcd(top, bottom) == 1 and 0 <= top < bottom for top, bottom in test))
                self.assertTrue(all(sum(top * row[at] * (720720 * 10 ** 6) // bottom for at, (top, bottom)
                                        in enumerate(test)) % (720720 * 10 ** 6) == 0 for row in rows)
                                if all(720720 * 10 ** 6 % bottom == 0 for _, bottom in test) else True)
            seen[min(order, 2)] = seen.get(min(order, 2), 0) + 1
        self.assertGreater(min(seen.values()), 50)

    def test_wrong_x(self):
        for wrong in WRONG + ((), (1,), (1, 2, 3), [1, 2], (1, True), (None, 1), (1, TOO_LONG), C2, ((1,), 2)):
            self.refused(InvalidRow, order_in, ((1, 2),), wrong)
            self.refused(InvalidRow, lattice_test, ((1, 2),), wrong)
            self.refused(InvalidRow, is_lattice_test, ((1, 2),), wrong, None)

    def test_judged_lattice_tests(self):
        rows, x = ((2, 0), (0, 3)), (1, 0)
        self.assertIs(is_lattice_test(rows, x, ((1, 2), (0, 1))), True)
        self.assertIs(is_lattice_test(rows, x, ((1, 2), (2, 3))), True)
        for wrong in WRONG + ((), ((1, 2),), ((1, 2), (0, 1), (0, 1)), [(1, 2), (0, 1)], ([1, 2], (0, 1)),
                              ((2, 4), (0, 1)), ((1, 2), (0, 2)), ((1, 2), (3, 3)), ((-1, 2), (0, 1)), ((3, 2), (0, 1)),
                              ((True, 2), (0, 1)), ((1, 2), (False, 1)), ((1, 2), (0, True)), ((1, 2), (0, 0)),
                              ((0, 1), (1, 3)), ((1, 4), (0, 1)), ((1, 2), None), ((1, 2, 3), (0, 1)), C2,
                              ((1, TOO_LONG), (0, 1)), ((1, -2), (0, 1))):
            self.assertIs(is_lattice_test(rows, x, wrong), False)
        self.assertIs(is_lattice_test(rows, (2, 0), ((1, 2), (0, 1))), False)

    def test_great_steps(self):
        great = 10 ** 59 + 3
        self.assertTrue(is_lattice_test(((great,),), (1,), lattice_test(((great,),), (1,))))
        self.assertTrue(is_lattice_test(((LONGEST,),), (1,), lattice_test(((LONGEST,),), (1,))))
        self.assertIsNone(lattice_test(((great,),), (great,)))
        two = ((great, 0), (0, great + 1))
        self.assertEqual(steps_of(two), (1, great * (great + 1)))
        for x in ((1, 1), (great, 0), (0, 0)):
            self.refused(TooMany, lattice_test, two, x, limit=60)
        self.refused(InvalidRow, lattice_test, two, (1,))
        self.assertEqual(order_in(two, (1, 1)), great * (great + 1))
        self.assertIs(is_lattice_test(two, (1, 0), ((1, great), (0, 1))), True)
        free = ((6, 10, 0),)
        for x in ((0, 0, LONGEST), (0, 0, 2 ** 100 * 3 ** 20), (3, 5, 0), (6, 10, 2 * 3 * 5 * 7 * 11 * 13)):
            self.assertTrue(is_lattice_test(free, x, lattice_test(free, x)))

    def test_not_true_that_the_diagonal_tells_the_steps(self):
        self.assertEqual(steps_of(((4, 0), (0, 6))), (2, 12))

    def test_two_wrong_arguments(self):
        self.refused(InvalidRow, solution, ((1,),), (1, 2), 1)
        self.refused(InvalidTable, solution, ((),), (1, 2), 1)
        self.refused(InvalidNumber, is_solution, ((1,),), (1,), 1, (1,), given=1)


if __name__ == "__main__":
    unittest.main()
