"""The tables of bar ladders, round ladders and product ladders."""

from groupsover.base.groups import power_of
from groupsover.rows.plain import all_tuples


def bar_tables(group, height):
    """The tables of the bar ladder."""
    members = list(range(1, group.size))
    tables, lower = [], [()]
    for step in range(1, height + 1):
        index_of = {known: at for at, known in enumerate(lower)}
        upper = all_tuples(members, step)
        tables.append(tuple([bar_line(group, known, index_of) for known in upper]))
        lower = upper
    return tuple(tables)


def bar_line(group, known, index_of):
    """The sums at one tuple of members other than 0."""
    line = [{} for _ in index_of]
    add_to_line(line, index_of, known[1:], known[0], 1)
    for at in range(len(known) - 1):
        joined = group.all_products[known[at]][known[at + 1]]
        add_to_line(line, index_of, known[:at] + (joined,) + known[at + 2:], 0, 1 if at % 2 else -1)
    add_to_line(line, index_of, known[:-1], 0, 1 if len(known) % 2 == 0 else -1)
    return tuple([{member: told[member] for member in sorted(told) if told[member]} for told in line])


def add_to_line(line, index_of, known, member, times):
    """Add so many times a member at a tuple, which may have a 0 and is then left out."""
    if known in index_of:
        told = line[index_of[known]]
        told[member] = told.get(member, 0) + times


def is_round_maker(group, member):
    """Whether all members are powers of this one."""
    return len({power_of(group.all_products, member, times) for times in range(group.size)}) == group.size


def round_tables(group, member, height):
    """The tables of the round ladder."""
    less = {0: -1, member: 1} if member else {}
    mean = {inner: 1 for inner in range(group.size)}
    return tuple([((dict(mean if at % 2 else less),),) for at in range(height)])


def product_places(one, other, step):
    """The pairs of rows of a product ladder in one step, each one with the steps and the rows of both."""
    found = []
    for first in range(step, -1, -1):
        found.extend([(first, i, j) for i in range(one[first]) for j in range(other[step - first])])
    return found


def product_tables(one, other, size):
    """The tables of the product of two ladders, each told by its widths and tables; size is how many the second has."""
    tables = []
    for step in range(1, len(one[1]) + 1):
        lower = product_places(one[0], other[0], step - 1)
        index_of = {place: at for at, place in enumerate(lower)}
        tables.append(tuple([product_line(one[1], other[1], step, place, index_of, size)
                             for place in product_places(one[0], other[0], step)]))
    return tuple(tables)


def product_line(one, other, step, place, index_of, size):
    """The sums of a product ladder at one pair of rows."""
    first, i, j = place
    line = [{} for _ in index_of]
    if first:
        for column, told in enumerate(one[first - 1][i]):
            line[index_of[(first - 1, column, j)]] = {member * size: told[member] for member in told}
    if step - first:
        sign = -1 if first % 2 else 1
        for column, told in enumerate(other[step - first - 1][j]):
            line[index_of[(first, i, column)]] = {member: sign * told[member] for member in told}
    return tuple(line)
