"""Integer tables by their determinants of rows and columns: rank, determinant and steps."""

from math import gcd

from groupsover.base.diagonals import sizes_modulo


class Minors:
    """The determinants that working off the rows and columns of a table leads to.

    Behind k pivots each entry that is left is a determinant of k + 1 rows and columns, but for its sign.
    `last` is what was left ahead of the last pivot, `ahead` what was left ahead of the last but one.
    """

    def __init__(self, rows):
        self.rank = 0
        self.sign = 1
        self.pivot = 1
        self.ahead = [[1]]
        self.last = [[1]]
        left = [list(row) for row in rows]
        spot = first_spot(left)
        while spot is not None:
            left = self.work_off(left, spot[0], spot[1])
            spot = first_spot(left)

    def work_off(self, left, at_row, at_column):
        """What is left once a pivot's row and column are worked off."""
        top = left[at_row]
        pivot = top[at_column]
        rows = [left[k] for k in range(len(left)) if k != at_row]
        columns = [k for k in range(len(top)) if k != at_column]
        # the pivot ahead divides this exactly, as these are determinants
        further = [[(pivot * row[k] - row[at_column] * top[k]) // self.pivot for k in columns] for row in rows]
        self.rank += 1
        self.sign = self.sign if (at_row + at_column) % 2 == 0 else -self.sign
        self.pivot = pivot
        self.ahead = self.last
        self.last = left
        return further


def first_spot(rows):
    """The indices of the first entry other than 0, None if there is none."""
    for at_row, row in enumerate(rows):
        for at_column, entry in enumerate(row):
            if entry:
                return at_row, at_column
    return None


def divisor_of(rows):
    """The greatest common divisor of all entries."""
    divisor = 0
    for row in rows:
        for entry in row:
            divisor = gcd(divisor, entry)
    return divisor


def determinant_of(rows):
    """The determinant of a square table."""
    minors = Minors(rows)
    return minors.sign * minors.pivot if minors.rank == len(rows) else 0


def steps_of_rows(rows):
    """The steps of a table of rows."""
    divisor = divisor_of(rows)
    if divisor == 0:
        return ()
    # all steps are multiples of what divides all entries
    return tuple([divisor * step for step in plain_steps([[entry // divisor for entry in row] for row in rows])])


def plain_steps(rows):
    """The steps of a table other than 0."""
    minors = Minors(rows)
    rank, width = minors.rank, len(rows[0])
    if rank < len(rows) or rank < width:
        # each step divides the divisor of some determinants of as many rows as the rank
        return sizes_modulo(rows, width, divisor_of(minors.last))[:rank]
    # here the last step is what the determinant leaves, so a lesser number is enough for the others
    steps = sizes_modulo(rows, width, divisor_of(minors.ahead))[:rank - 1]
    rest = abs(minors.pivot)
    for step in steps:
        rest = rest // step
    return steps + [rest]
