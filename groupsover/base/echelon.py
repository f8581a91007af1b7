"""Rows modulo a number, worked into an echelon: each pivot has a lead of its own, which divides the modulus.

A row is a dict from columns to entries other than 0; its lead is its greatest column. Each sum of rows
whose entries are 0 down to some column is a sum of the pivots with lower leads. So what cannot be taken
off by pivots is no sum of rows, also where the modulus is no prime.
"""

from math import gcd

from groupsover.base.diagonals import bezout


class Echelon:
    """All sums of some rows. Rows with a lead below the lowest one are left out."""

    def __init__(self, modulus, lowest):
        self.modulus = modulus
        self.lowest = lowest
        self.pivots = {}

    def work_in(self, row):
        """Let a further row be a sum of the pivots."""
        waiting = [{column: row[column] % self.modulus for column in row if row[column] % self.modulus}]
        while waiting:
            self.settle_row(waiting.pop(), waiting)

    def settle_row(self, row, waiting):
        """Take pivots off a row of its own until it is one; what is to be worked in for this waits."""
        lead = lead_of(row)
        while lead >= self.lowest:
            if lead not in self.pivots:
                self.put_pivot(lead, row, waiting)
                return
            pivot = self.pivots[lead]
            if row[lead] % pivot[lead]:
                row = self.sharpen(lead, row)
            else:
                take_off(row, row[lead] // pivot[lead], pivot, self.modulus)
            lead = lead_of(row)

    def put_pivot(self, lead, row, waiting):
        """Put a first row with a lead, brought to a divisor of the modulus."""
        divisor, times, _ = bezout(row[lead], self.modulus)
        self.pivots[lead] = times_row(row, times, self.modulus)
        waiting.append(times_row(row, self.modulus // divisor, self.modulus))

    def sharpen(self, lead, row):
        """Put a pivot with the divisor of both leads, and return what is left of the row.

        What of the new pivot has no entry there is told by what is left, and by what waited with the old one.
        """
        pivot = self.pivots[lead]
        divisor, first, second = bezout(pivot[lead], row[lead])
        left = times_row(row, pivot[lead] // divisor, self.modulus)
        take_off(left, row[lead] // divisor, pivot, self.modulus)
        sharper = times_row(pivot, first, self.modulus)
        take_off(sharper, -second, row, self.modulus)
        self.pivots[lead] = sharper
        return left

    def lead_size(self, lead):
        """The least lead that a sum of rows has there, the modulus standing for 0."""
        return self.pivots[lead][lead] if lead in self.pivots else self.modulus

    def left_of(self, row):
        """What is left of a row, once pivots are taken off down to the first lead that none of them meets."""
        row = {column: row[column] % self.modulus for column in row if row[column] % self.modulus}
        lead = lead_of(row)
        while lead >= self.lowest and row[lead] % self.lead_size(lead) == 0:
            take_off(row, row[lead] // self.lead_size(lead), self.pivots[lead], self.modulus)
            lead = lead_of(row)
        return row

    def order_of(self, row):
        """The least number from 1 on so many times which the row is a sum of rows."""
        order = 1
        row = self.left_of(row)
        lead = lead_of(row)
        while lead >= self.lowest:
            size = self.lead_size(lead)
            times = size // gcd(size, row[lead])
            order = order * times
            row = self.left_of(times_row(row, times, self.modulus))
            lead = lead_of(row)
        return order

    def least_like(self, row):
        """The row with the least entries, the greatest columns first, that differs from a row by a sum of rows."""
        row = {column: row[column] % self.modulus for column in row if row[column] % self.modulus}
        for lead in sorted(self.pivots, reverse=True):
            take_off(row, row.get(lead, 0) // self.pivots[lead][lead], self.pivots[lead], self.modulus)
        return row

    def factors_against(self, lead):
        """Factors of columns by which all rows come to 0, but not what is left with this lead.

        The columns below the lead have none, so that pivots with lower leads come to 0; those above
        have what brings their own pivots to 0, which there always is in an echelon.
        """
        factors = {lead: self.modulus // self.lead_size(lead)}
        for further in sorted(self.pivots):
            if further > lead:
                pivot = self.pivots[further]
                total = sum([pivot[column] * factors[column] for column in pivot if column in factors])
                times = -(total // pivot[further]) % self.modulus
                if times:
                    factors[further] = times
        return factors


def lead_of(row):
    """The greatest column of a row, -1 if there is none."""
    return max(row, default=-1)


def times_row(row, times, modulus):
    """A row of its own, so many times a row."""
    found = {column: times * row[column] % modulus for column in row}
    return {column: found[column] for column in found if found[column]}


def take_off(row, times, other, modulus):
    """Change a row to what is left of it, so many times another one taken off."""
    for column in other:
        entry = (row.get(column, 0) - times * other[column]) % modulus
        if entry:
            row[column] = entry
        else:
            row.pop(column, None)


class Span:
    """The sums of some columns modulo a number, told by how many of each column they take."""

    def __init__(self, columns, modulus):
        self.many = len(columns)
        self.echelon = Echelon(modulus, self.many)
        for index, column in enumerate(columns):
            # how many of each column a row takes is kept below its entries
            row = {self.many + place: column[place] for place in column}
            row[index] = 1
            self.echelon.work_in(row)

    def left_of(self, wanted):
        """What is left of some entries, and how many of each column were taken off, as what is left of 0."""
        return self.echelon.left_of({self.many + place: wanted[place] for place in wanted})

    def shares(self, wanted):
        """How many of each column add up to the wanted entries, None if they cannot."""
        left = self.left_of(wanted)
        if lead_of(left) >= self.many:
            return None
        return [-left.get(index, 0) % self.echelon.modulus for index in range(self.many)]

    def bar(self, wanted):
        """Factors of places by which all columns come to 0, but not the wanted entries; None if there are none."""
        lead = lead_of(self.left_of(wanted))
        if lead < self.many:
            return None
        factors = self.echelon.factors_against(lead)
        return {place - self.many: factors[place] for place in factors}

    def order_of(self, wanted):
        """The least number from 1 on so many times which the wanted entries are a sum of columns."""
        return self.echelon.order_of({self.many + place: wanted[place] for place in wanted})
