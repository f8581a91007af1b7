"""Rows with few entries, worked off by entries that can be divided by; and the steps of what is left.

Rows are dicts from spots to entries other than 0. The modulus 0 stands for integers as they are.
"""

from math import gcd

from groupsover.base.diagonals import bezout
from groupsover.base.echelon import take_off, times_row
from groupsover.base.minors import Minors, steps_of_rows
from groupsover.base.same_maps import primes_of


class Sparse:
    """Rows of few entries modulo a number, and for each spot the rows that have it.

    Spots below 0, and those that are barred, are never worked off.
    """

    def __init__(self, rows, modulus):
        self.modulus = modulus
        self.left = {}
        self.holders = {}
        self.barred = {}
        for key, row in enumerate(rows):
            found = {spot: row[spot] % modulus if modulus else row[spot] for spot in row}
            found = {spot: found[spot] for spot in found if found[spot]}
            if found:
                self.left[key] = found
                for spot in found:
                    self.holders.setdefault(spot, {})[key] = True

    def add_times(self, key, times, further):
        """Add so many times a further row to a row."""
        row = self.left[key]
        for spot in further:
            entry = row.get(spot, 0) + times * further[spot]
            if self.modulus:
                entry = entry % self.modulus
            if entry:
                row[spot] = entry
                self.holders.setdefault(spot, {})[key] = True
            elif spot in row:
                row.pop(spot)
                self.holders[spot].pop(key)
        if not row:
            self.left.pop(key)

    def take_out(self, key):
        """Take a row out, and return it."""
        row = self.left.pop(key)
        for spot in row:
            self.holders[spot].pop(key)
        return row

    def work_out(self, key, spot):
        """Take a row out, so that no other one has a spot where its entry can be divided by; return it."""
        row = self.take_out(key)
        inverse = bezout(row[spot], self.modulus)[1] if self.modulus else row[spot]
        for further in list(self.holders[spot]):
            self.add_times(further, -inverse * self.left[further][spot], row)
        return row

    def unit_spot(self):
        """A row with few entries, and a spot that few rows have, where it can be divided by; None if there is none."""
        best, least = None, 0
        for key in self.left:
            row = self.left[key]
            if best is None or len(row) < least:
                spots = [(len(self.holders[spot]), spot) for spot in row
                         if spot >= 0 and gcd(row[spot], self.modulus) == 1 and spot not in self.barred]
                if spots:
                    best, least = (key, min(spots)[1]), len(row)
        return best

    def work_off(self):
        """Clear rows as long as there are any that can be; how many these are."""
        many = 0
        spot = self.unit_spot()
        while spot is not None:
            self.work_out(spot[0], spot[1])
            many += 1
            spot = self.unit_spot()
        return many

    def rows_left(self):
        """What is left, as rows of a table."""
        spots = sorted({spot for key in self.left for spot in self.left[key]})
        return [[self.left[key].get(spot, 0) for spot in spots] for key in sorted(self.left)]


class PrimeSpan:
    """Sums of rows modulo a prime: each row that is kept has 1 at a spot that all later ones have not."""

    def __init__(self, prime):
        self.prime = prime
        self.one_at = {}

    def many_rows(self):
        """How many rows are kept."""
        return len(self.one_at)

    def take_in(self, row):
        """Keep what is left of a further row, if this is no sum of those that are kept; whether it is kept."""
        row = {spot: row[spot] % self.prime for spot in row if row[spot] % self.prime}
        for spot in self.one_at:
            if spot in row:
                take_off(row, row[spot], self.one_at[spot], self.prime)
        if not row:
            return False
        spot = min(row)
        self.one_at[spot] = times_row(row, bezout(row[spot], self.prime)[1], self.prime)
        return True


def rank_of_rows(rows):
    """How many of the rows do not come of one another, as rows of fractions."""
    sparse = Sparse(rows, 0)
    many = sparse.work_off()
    return many + Minors(sparse.rows_left()).rank if sparse.left else many


def are_steps_one(rows, rank):
    """Whether rows have just so many steps, all of which are 1."""
    sparse = Sparse(rows, 0)
    many = sparse.work_off()
    if many < rank and sparse.left:
        steps = steps_of_rows(sparse.rows_left())
        return many + len(steps) == rank and all([step == 1 for step in steps])
    return many == rank and not sparse.left


def torsion_list(rows, order):
    """The list of what is of finite order modulo some rows, where all finite orders divide a known number.

    Modulo that number and each of its primes once more, a step that is 0 is told from all others.
    """
    primes = primes_of(order)
    modulus = order
    for prime in primes:
        modulus = modulus * prime
    sparse = Sparse(rows, modulus)
    sparse.work_off()
    left = [sparse.left[key] for key in sparse.left]
    return joined_parts([prime_steps(left, prime, modulus) for prime in primes])


def prime_steps(rows, prime, modulus):
    """The greatest powers of a prime that divide the steps of some rows, but for 1, the greatest first."""
    power = 1
    while modulus % prime == 0:
        modulus, power = modulus // prime, power * prime
    found, scale = [], 1
    while power > 1:
        sparse = Sparse(rows, power)
        many = sparse.work_off()
        found = [scale] * many + found
        # what is left can be divided by the prime everywhere
        rows = [{spot: sparse.left[key][spot] // prime for spot in sparse.left[key]} for key in sparse.left]
        power, scale = power // prime, scale * prime
    return [step for step in found if step > 1]


def joined_parts(parts):
    """The list of powers of several primes, each one's told from the greatest one down."""
    found = []
    for steps in parts:
        for at, step in enumerate(steps):
            if at < len(found):
                found[at] = found[at] * step
            else:
                found.append(step)
    return tuple(reversed(found))
