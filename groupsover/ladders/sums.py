"""Sums of members of a group, and tables of them.

A sum is a dict from members to integers other than 0. A row of sums is here a dict from columns to sums
with some member; a table that a ladder has is a tuple of tuples of sums.
"""

from groupsover.base.checks import is_integer
from groupsover.base.groups import is_member


def is_sum(group, value):
    """Whether the value is a sum of members."""
    if not isinstance(value, dict) or not all([is_member(group, member) for member in value]):
        return False
    return all([is_integer(times) and times != 0 for times in value.values()])


def is_sum_row(group, value, wide):
    """Whether the value is a tuple of so many sums."""
    return isinstance(value, tuple) and len(value) == wide and all([is_sum(group, told) for told in value])


def is_sum_table(group, value, high, wide):
    """Whether the value is a table of sums with so many rows and columns."""
    return isinstance(value, tuple) and len(value) == high and all([is_sum_row(group, row, wide) for row in value])


def tidy_sum(sums):
    """A sum with ascending members and without those that it has no times."""
    return {member: sums[member] for member in sorted(sums) if sums[member]}


def copied_table(table):
    """A table of sums of its own."""
    return tuple([tuple([tidy_sum(told) for told in row]) for row in table])


def copied_tables(tables):
    """Tables of sums of their own."""
    return tuple([copied_table(table) for table in tables])


def row_of_line(line):
    """A row of sums from a tuple of them."""
    return {column: told for column, told in enumerate(line) if told}


def rows_of_table(table):
    """The rows of sums of a table."""
    return [row_of_line(line) for line in table]


def line_of_row(row, wide):
    """A row of sums as a tuple of so many sums."""
    return tuple([tidy_sum(row.get(column, {})) for column in range(wide)])


def row_product(group, row, rows):
    """A row of sums times a table, which is told by its rows of sums."""
    found = {}
    for at in row:
        for column in rows[at]:
            cell = found.setdefault(column, {})
            add_product(group, cell, row[at], rows[at][column])
    tidied = {column: tidy_sum(found[column]) for column in sorted(found)}
    return {column: tidied[column] for column in tidied if tidied[column]}


def add_product(group, cell, one, other):
    """Add the product of two sums to a cell."""
    for left in one:
        products = group.all_products[left]
        for right in other:
            member = products[right]
            cell[member] = cell.get(member, 0) + one[left] * other[right]


def product_rows(group, one, other):
    """The product of two tables, which are told by their rows of sums."""
    return [row_product(group, row, other) for row in one]


def are_going_to_zero(group, tables):
    """Whether tables of sums take sums of integers to 0, and each one takes what the one below it makes to 0."""
    if any([sum(list(row[0].values())) for row in tables[0]]):
        return False
    rows = [rows_of_table(table) for table in tables]
    return not any([row for at in range(1, len(rows)) for row in product_rows(group, rows[at], rows[at - 1])])


def plain_rows(group, rows):
    """Rows of sums as rows of integers, one for each member times each row; so are the spots told."""
    size = group.size
    found = []
    for row in rows:
        for member in range(size):
            products = group.all_products[member]
            found.append({column * size + products[inner]: row[column][inner]
                          for column in row for inner in row[column]})
    return found
