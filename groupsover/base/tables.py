"""Tables of integers: steps, what can be solved modulo a number, and lists of commuting groups."""

from math import gcd, lcm

from groupsover.base.checks import are_integers, is_ratio, is_within, need_short
from groupsover.base.diagonals import sizes_modulo, unit_rows
from groupsover.base.echelon import Span
from groupsover.base.minors import Minors, determinant_of, steps_of_rows
from groupsover.errors import InvalidNumber, InvalidOperation, InvalidRow, InvalidTable

MAX_SIDE = 40
MAX_MODULUS = 1000000


def is_table(value):
    """Whether the value is a table."""
    if not isinstance(value, tuple) or not 1 <= len(value) <= MAX_SIDE:
        return False
    if not isinstance(value[0], tuple) or not 1 <= len(value[0]) <= MAX_SIDE:
        return False
    return all([are_integers(row, len(value[0])) for row in value])


def need_table(table):
    """Refuse what is no table."""
    if not is_table(table):
        raise InvalidTable("this is no table")


def need_modulus(modulus):
    """Refuse what is no modulus."""
    if not is_within(modulus, 2, MAX_MODULUS):
        raise InvalidNumber(modulus)


def need_integers(value, many):
    """Refuse what is no tuple of so many integers."""
    if not are_integers(value, many):
        raise InvalidRow("this is no tuple of so many integers")


def table_product(one, other):
    """The product of two matrices."""
    need_table(one)
    need_table(other)
    if len(one[0]) != len(other):
        raise InvalidOperation("the first table has not as many columns as the second one has rows")
    columns = list(zip(*other))
    return tuple([tuple([sum_of_products(row, column) for column in columns]) for row in one])


def sum_of_products(row, column):
    """The sum of the products of the entries of two tuples."""
    return sum([left * right for left, right in zip(row, column)])


def unit_table(size):
    """The square table with 1 at equal indices and 0 elsewhere."""
    if not is_within(size, 1, MAX_SIDE):
        raise InvalidNumber(size)
    return tuple([tuple(row) for row in unit_rows(size)])


def steps_of(table):
    """The tuple of the steps."""
    need_table(table)
    return steps_of_rows(table)


def rank_of(table):
    """How many steps there are."""
    need_table(table)
    return Minors(table).rank


def determinant(table):
    """The determinant of a square table."""
    need_table(table)
    if len(table) != len(table[0]):
        raise InvalidOperation("the table is not square")
    return determinant_of(table)


def columns_of(table):
    """The columns of a table, as dicts."""
    return [dict(enumerate(column)) for column in zip(*table)]


def need_system(table, values, modulus):
    """Refuse what does not tell what is to be solved."""
    need_table(table)
    need_integers(values, len(table))
    need_modulus(modulus)


def solution(table, values, modulus):
    """Integers that the table takes to the values modulo a number, None if there are none."""
    need_system(table, values, modulus)
    shares = Span(columns_of(table), modulus).shares(dict(enumerate(values)))
    return None if shares is None else tuple(shares)


def is_solution(table, values, modulus, value):
    """Whether the table takes the value to the values modulo a number."""
    need_system(table, values, modulus)
    if not are_rests(value, len(table[0]), modulus):
        return False
    return all([(sum_of_products(row, value) - goal) % modulus == 0 for row, goal in zip(table, values)])


def are_rests(value, many, modulus):
    """Whether the value is a tuple of so many integers from 0 to the modulus less 1."""
    return are_integers(value, many) and all([0 <= entry < modulus for entry in value])


def bar(table, values, modulus):
    """Factors of rows that take all columns to 0 modulo a number, but not the values; None if there are none."""
    need_system(table, values, modulus)
    factors = Span(columns_of(table), modulus).bar(dict(enumerate(values)))
    return None if factors is None else tuple([factors.get(place, 0) for place in range(len(table))])


def is_bar(table, values, modulus, value):
    """Whether the value is a bar."""
    need_system(table, values, modulus)
    if not are_rests(value, len(table), modulus):
        return False
    if any([sum_of_products(column, value) % modulus for column in zip(*table)]):
        return False
    return sum_of_products(values, value) % modulus != 0


def list_of(sizes):
    """The list of the sum of rounds of some sizes, 0 standing for the integers."""
    if not isinstance(sizes, tuple) or len(sizes) > MAX_SIDE or not are_integers(sizes, len(sizes)):
        raise InvalidRow("the sizes are a tuple of at most 40 integers")
    if any([size < 0 for size in sizes]):
        raise InvalidRow("a size is at least 0")
    return chain_of([size for size in sizes if size]) + tuple([size for size in sizes if not size])


def chain_of(sizes):
    """The list of the sum of rounds of some sizes other than 0."""
    chain = list(sizes)
    for low in range(len(chain)):
        for high in range(low + 1, len(chain)):
            # two rounds are as good as one of their divisor and one of their multiple
            chain[low], chain[high] = gcd(chain[low], chain[high]), lcm(chain[low], chain[high])
    return tuple([size for size in chain if size > 1])


def zero_list(table, modulus):
    """The list of the group of all that the table takes to 0 modulo a number."""
    need_table(table)
    need_modulus(modulus)
    width = len(table[0])
    sizes = sizes_modulo(table, width, modulus)
    return chain_of(sizes + [modulus] * (width - len(sizes)))


def made_list(table, modulus):
    """The list of the group of all that the table makes modulo a number."""
    need_table(table)
    need_modulus(modulus)
    return chain_of([modulus // size for size in sizes_modulo(table, len(table[0]), modulus)])


def quotient_list(rows):
    """The list of all tuples of integers modulo the sums of multiples of the rows."""
    need_table(rows)
    steps = steps_of_rows(rows)
    return tuple([step for step in steps if step > 1]) + (0,) * (len(rows[0]) - len(steps))


def order_in(rows, x):
    """The least number from 1 on so many times which x is a sum of multiples of the rows, 0 if there is none."""
    need_table(rows)
    need_integers(x, len(rows[0]))
    steps, further = steps_of_rows(rows), steps_of_rows(rows + (x,))
    if len(further) > len(steps):
        return 0
    # the products of the steps tell how many tuples there are between both
    return product_of(steps) // product_of(further)


def product_of(numbers):
    """The product of some numbers."""
    found = 1
    for number in numbers:
        found = found * number
    return found


def lattice_test(rows, x):
    """Ratios whose products with each row add up to an integer, but not those with x; None if there are none."""
    need_table(rows)
    need_integers(x, len(rows[0]))
    steps = steps_of_rows(rows)
    need_short(steps)
    wanted, columns = dict(enumerate(x)), [dict(enumerate(row)) for row in rows]
    if Minors(rows + (x,)).rank > len(steps):
        modulus, factors = prime_bar(columns, wanted)
    else:
        modulus = steps[-1] if steps else 1
        # what the rows' multiples reach modulo the last step, they reach
        factors = Span(columns, modulus).bar(wanted)
    if factors is None:
        return None
    return tuple([ratio_of(factors.get(place, 0), modulus) for place in range(len(x))])


def prime_bar(columns, wanted):
    """The least prime modulo which there is a bar, and a bar modulo it, where there is one for almost all primes."""
    prime = 2
    factors = Span(columns, prime).bar(wanted)
    while factors is None:
        prime = next_prime(prime)
        factors = Span(columns, prime).bar(wanted)
    return prime, factors


def next_prime(number):
    """The least prime above a number."""
    further = number + 1
    while any([further % divisor == 0 for divisor in range(2, further)]):
        further += 1
    return further


def ratio_of(top, bottom):
    """A fraction modulo 1 as a ratio."""
    top = top % bottom
    divisor = gcd(top, bottom)
    return top // divisor, bottom // divisor


def is_lattice_test(rows, x, value):
    """Whether the value is a lattice test."""
    need_table(rows)
    need_integers(x, len(rows[0]))
    if not isinstance(value, tuple) or len(value) != len(x) or not all([is_ratio(ratio) for ratio in value]):
        return False
    bottom = 1
    for ratio in value:
        bottom = lcm(bottom, ratio[1])
    factors = [top * (bottom // under) for top, under in value]
    return (all([sum_of_products(row, factors) % bottom == 0 for row in rows])
            and sum_of_products(x, factors) % bottom != 0)
