"""Tables modulo a number, brought to one with 0 outside of its diagonal."""

from math import gcd


def bezout(one, other):
    """The greatest common divisor, and how many times it takes of each, not both being 0."""
    if one and other % one == 0:
        return one, 1, 0
    first, second = (one, 1, 0), (other, 0, 1)
    while second[0]:
        times = first[0] // second[0]
        first, second = second, (first[0] - times * second[0], first[1] - times * second[1],
                                 first[2] - times * second[2])
    return first


def unit_rows(size):
    """The rows of the square table with 1 at equal indices and 0 elsewhere."""
    return [[1 if row == column else 0 for column in range(size)] for row in range(size)]


class Diagonal:
    """A table whose rows and columns are mixed, modulo a number, until only its diagonal is left.

    `mixes` has for each column how it was mixed of the columns that were there at first;
    `backs` is the inverse: the rows of `backs` tell the new columns' units by the old ones.
    """

    def __init__(self, rows, width, modulus):
        self.rows = [[entry % modulus for entry in row] for row in rows]
        self.width = width
        self.modulus = modulus
        self.mixes = unit_rows(width)
        self.backs = unit_rows(width)
        corner = 0
        while corner < min(len(self.rows), width) and self.bring_least(corner):
            self.settle_corner(corner)
            corner += 1

    def step_sizes(self):
        """The greatest common divisors of the steps and the modulus, which itself stands for 0."""
        return [gcd(self.rows[k][k], self.modulus) for k in range(min(len(self.rows), self.width))]

    def settle_corner(self, corner):
        """Mix until the corner stands alone in its row and column, and divides all that is left."""
        unsettled = True
        while unsettled:
            self.clear_column(corner)
            self.clear_row(corner)
            below = [row for row in self.rows[corner + 1:] if row[corner]]
            unsettled = len(below) > 0 or self.join_row(corner)

    def bring_least(self, corner):
        """Bring an entry with the least divisor to the corner; whether there is one other than 0."""
        spots = [(gcd(self.rows[k][column], self.modulus), k, column)
                 for k in range(corner, len(self.rows)) for column in range(corner, self.width)
                 if self.rows[k][column]]
        if not spots:
            return False
        _, k, column = min(spots)
        self.rows[corner], self.rows[k] = self.rows[k], self.rows[corner]
        for at in range(len(self.rows)):
            row = self.rows[at]
            row[corner], row[column] = row[column], row[corner]
        self.mixes[corner], self.mixes[column] = self.mixes[column], self.mixes[corner]
        self.backs[corner], self.backs[column] = self.backs[column], self.backs[corner]
        return True

    def clear_column(self, corner):
        """Make the entries below the corner 0."""
        for k in range(corner + 1, len(self.rows)):
            one, other = self.rows[corner], self.rows[k]
            if other[corner]:
                divisor, first, second = bezout(one[corner], other[corner])
                self.rows[corner] = self.mixed(one, first, other, second)
                self.rows[k] = self.mixed(other, one[corner] // divisor, one, -(other[corner] // divisor))

    def clear_row(self, corner):
        """Make the entries behind the corner 0, which may fill its column again."""
        for k in range(corner + 1, self.width):
            if self.rows[corner][k]:
                self.mix_columns(corner, k)

    def mix_columns(self, corner, k):
        """Lead the divisor of two entries of the corner's row to the corner."""
        one, other = self.rows[corner][corner], self.rows[corner][k]
        divisor, first, second = bezout(one, other)
        third, fourth = -(other // divisor), one // divisor
        for at in range(len(self.rows)):
            row = self.rows[at]
            left, right = row[corner], row[k]
            row[corner] = (first * left + second * right) % self.modulus
            row[k] = (third * left + fourth * right) % self.modulus
        left, right = self.mixes[corner], self.mixes[k]
        self.mixes[corner] = self.mixed(left, first, right, second)
        self.mixes[k] = self.mixed(left, third, right, fourth)
        left, right = self.backs[corner], self.backs[k]
        self.backs[corner] = self.mixed(left, fourth, right, -third)
        self.backs[k] = self.mixed(left, -second, right, first)

    def join_row(self, corner):
        """Add a row with an entry that the corner does not divide to the corner's row; whether there is one."""
        divisor = gcd(self.rows[corner][corner], self.modulus)
        for k in range(corner + 1, len(self.rows)):
            if any([entry % divisor for entry in self.rows[k]]):
                self.rows[corner] = self.mixed(self.rows[corner], 1, self.rows[k], 1)
                return True
        return False

    def mixed(self, one, first, other, second):
        """A row so many times, and another one so many times."""
        return [(first * left + second * right) % self.modulus for left, right in zip(one, other)]


def sizes_modulo(rows, width, modulus):
    """The greatest common divisors of the steps of a table and a modulus, each dividing the next one."""
    return Diagonal(rows, width, modulus).step_sizes()
