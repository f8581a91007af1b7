"""Products of rows of two floors, by a pairing of both into a third one."""

from groupsover.base.checks import are_integers
from groupsover.base.floors import need_floor, need_value
from groupsover.base.groups import few_makers
from groupsover.base.reckoning import is_multiple, led_value, reduced, short_value
from groupsover.errors import InvalidOperation, InvalidTable, Refused, TooMany
from groupsover.rows.plain import add_to, are_short_values, change_of, is_closed_row, row_of_sums
from groupsover.rows.plain import sum_of_rows, tidy_row
from groupsover.rows.rows import MAX_STEP, has_row, need_asked, need_row, need_step, short_row
from groupsover.rows.solving import Changes

MOST_STEPS = 4


def need_three(one, other, third):
    """Refuse what are no three floors over one group."""
    need_floor(one)
    need_floor(other)
    need_floor(third)
    if one.group != other.group or one.group != third.group:
        raise InvalidOperation("the floors are over unlike groups")


def is_keeping_table(one, other, rest, table):
    """Whether the value is a table of a pairing for a place with a rest."""
    if not isinstance(table, tuple) or len(table) != one.places:
        return False
    if not all([are_integers(row, other.places) for row in table]):
        return False
    return all([is_multiple(entry * left, rest) and is_multiple(entry * right, rest)
                for row, left in zip(table, one.rests) for entry, right in zip(row, other.rests)])


def led_pairing(pairing, left, right):
    """The table for each place of what a pairing makes of two led values."""
    columns = list(zip(*left))
    found = []
    for table in pairing:
        # first the value of the second floor is led, then that of the first one
        behind = [[sum([entry * row[place] for entry, row in zip(line, right)]) for place in range(len(right))]
                  for line in table]
        found.append([[sum([part * line[place] for part, line in zip(column, behind)])
                       for place in range(len(right))] for column in columns])
    return found


def turned_pairing(table, pairing):
    """The table for each place of what a table makes of the value of a pairing, but for rests."""
    high, wide = len(pairing[0]), len(pairing[0][0])
    return [[[sum([entry * told[i][j] for entry, told in zip(row, pairing)]) for j in range(wide)]
             for i in range(high)] for row in table]


def is_equal_modulo(rests, one, other):
    """Whether two pairings are equal but for the rests of their places."""
    return all([is_multiple(left - right, rest) for table, told, rest in zip(one, other, rests)
                for row, line in zip(table, told) for left, right in zip(row, line)])


def has_pairing(one, other, third, value):
    """Whether the value is a pairing of two floors into a third one."""
    if not isinstance(value, tuple) or len(value) != third.places:
        return False
    if not all([is_keeping_table(one, other, rest, table) for rest, table in zip(third.rests, value)]):
        return False
    return all([is_equal_modulo(third.rests, led_pairing(value, one.tables[maker], other.tables[maker]),
                                turned_pairing(third.tables[maker], value))
                for maker in few_makers(one.group)])


def is_pairing(one, other, third, value):
    """Whether the value is a pairing of two floors into a third one."""
    need_three(one, other, third)
    return has_pairing(one, other, third, value)


def need_pairing(one, other, third, pairing):
    """Refuse what are no three floors, and what is no pairing of them."""
    need_three(one, other, third)
    if not has_pairing(one, other, third, pairing):
        raise InvalidTable("this is no pairing of the floors")


def paired(rests, pairing, x, y):
    """The value of a pairing, however long its integers are."""
    return reduced(rests, [sum([part * sum([entry * other for entry, other in zip(row, y)])
                                for part, row in zip(x, table)]) for table in pairing])


def pairing_value(one, other, third, pairing, x, y):
    """The value of a pairing at two values."""
    need_pairing(one, other, third, pairing)
    need_value(one, x)
    need_value(other, y)
    return short_value(paired(third.rests, pairing, x, y))


def turned_tables(pairing):
    """The tables of a pairing with rows as columns."""
    return tuple([tuple([tuple(column) for column in zip(*table)]) for table in pairing])


def turned(one, other, third, pairing):
    """The pairing of the second and the first floor with rows as columns."""
    need_pairing(one, other, third, pairing)
    return turned_tables(pairing)


def need_product_call(one, other, third, pairing, left, right):
    """Refuse what cannot be multiplied; left and right are pairs of a step and a row."""
    need_pairing(one, other, third, pairing)
    for floor, (step, row) in ((one, left), (other, right)):
        need_step(step, 0, MAX_STEP)
        need_row(floor, step, row)
    if left[0] + right[0] > MOST_STEPS:
        raise TooMany(MOST_STEPS)
    need_asked(one, left[0] + right[0])


def plain_product(other, third, pairing, f, h):
    """The product of two rows, however long its integers are."""
    products, moved, found = third.group.all_products, {}, {}
    for ahead in f:
        member = 0
        for further in ahead:
            member = products[member][further]
        if member not in moved:
            moved[member] = {behind: led_value(other.rests, other.tables[member], h[behind]) for behind in h}
        for behind in h:
            found[ahead + behind] = paired(third.rests, pairing, f[ahead], moved[member][behind])
    return tidy_row(found)


def product_row(one, other, third, pairing, p, f, q, h):
    """The product of a p-row of the first floor and a q-row of the second one."""
    need_product_call(one, other, third, pairing, (p, f), (q, h))
    return short_row(plain_product(other, third, pairing, f, h))


def need_turned_call(one, other, third, pairing, left, right):
    """Refuse what cannot be multiplied, open rows, and rows of the step 0 alone."""
    need_product_call(one, other, third, pairing, left, right)
    if not is_closed_row(one, left[0], left[1]) or not is_closed_row(other, right[0], right[1]):
        raise Refused(("closed",))
    if left[0] + right[0] == 0:
        raise InvalidOperation("there are no rows below the step 0")


def turned_difference(one, other, third, pairing, left, right):
    """The product of two rows, less what the turned pairing makes of them in the other order."""
    product = plain_product(other, third, pairing, left[1], right[1])
    back = plain_product(one, third, turned_tables(pairing), right[1], left[1])
    return sum_of_rows(third.rests, product, 1 if left[0] * right[0] % 2 else -1, back)


def by_products(products, row):
    """The tuples of a row by the products of their members."""
    found = {}
    for members in row:
        product = 0
        for member in members:
            product = products[product][member]
        found.setdefault(product, []).append(members)
    return found


def inner_product(other, third, pairing, left, right):
    """The row that has at a tuple all ways to put one of the second row in the place of one member of the first.

    Its change is what two closed rows make in both orders: so it is the source that is asked for.
    """
    products, sums = third.group.all_products, {}
    known = by_products(products, right[1])
    sign = 1 if (left[0] + 1) * right[0] % 2 else -1
    for ahead in left[1]:
        member, moving = 0, other.tables[0]
        for at, further in enumerate(ahead):
            for behind in known.get(further, []):
                moved = led_value(other.rests, moving, right[1][behind])
                value = paired(third.rests, pairing, left[1][ahead], moved)
                add_to(sums, ahead[:at] + behind + ahead[at + 1:], -sign if at * (right[0] + 1) % 2 else sign, value)
            member = products[member][further]
            moving = other.tables[member]
    return row_of_sums(third.rests, sums)


def turned_source(one, other, third, pairing, p, f, q, h):
    """A row whose change is the product of two closed rows, less what they make in the other order."""
    need_turned_call(one, other, third, pairing, (p, f), (q, h))
    # with a value that all members leave there is no difference
    found = inner_product(other, third, pairing, (p, f), (q, h)) if p and q else {}
    if not are_short_values(found):
        found = Changes(third, p + q).source(turned_difference(one, other, third, pairing, (p, f), (q, h)))
    return short_row(found)


def is_turned_source(one, other, third, pairing, p, f, q, h, value):
    """Whether the value is a row whose change is what two closed rows make in both orders."""
    need_turned_call(one, other, third, pairing, (p, f), (q, h))
    if not has_row(third, p + q - 1, value):
        return False
    difference = turned_difference(one, other, third, pairing, (p, f), (q, h))
    return change_of(third, p + q - 1, value) == difference
