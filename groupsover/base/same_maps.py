"""Tables that lead all values with some rests one to one to all of them."""

from math import gcd

from groupsover.base.minors import determinant_of
from groupsover.base.reckoning import multiple_of
from groupsover.errors import TooMany


def primes_of(number):
    """The ascending list of the primes that divide a number from 1 on."""
    found, prime = [], 2
    while number > 1:
        if number % prime == 0:
            found.append(prime)
            while number % prime == 0:
                number = number // prime
        prime += 1
    return found


def is_full_modulo(rows, prime):
    """Whether the determinant of a square table is not 0 modulo a prime."""
    left = [[entry % prime for entry in row] for row in rows]
    for at in range(len(left)):
        spots = [k for k in range(at, len(left)) if left[k][at]]
        if not spots:
            return False
        left[at], left[spots[0]] = left[spots[0]], left[at]
        top = left[at]
        for k in range(at + 1, len(left)):
            times = left[k][at]
            # multiplied by an entry other than 0, a row is as good as before
            left[k] = [(top[at] * entry - times * over) % prime for entry, over in zip(left[k], top)]
    return True


class OneToOne:
    """What is asked of a table that keeps some rests, so that it leads one to one and onto all values.

    At whole places its determinant has the size 1. At the others it is enough to ask the values that
    are 0 a prime number of times: no other than 0 is led to 0 if none of them is.
    """

    def __init__(self, rests):
        self.asked_rests = rests
        self.whole = [place for place, rest in enumerate(rests) if not rest]
        self.primes = [(prime, [place for place, rest in enumerate(rests) if rest and rest % prime == 0])
                       for prime in primes_of(multiple_of(rests))]

    def does_fit(self, table):
        """Whether a table that keeps the rests leads one to one and onto."""
        rests = self.asked_rests
        for prime, places in self.primes:
            if not is_full_modulo([[table[k][j] * rests[j] // rests[k] for j in places] for k in places], prime):
                return False
        if not self.whole:
            return True
        return determinant_of([[table[k][j] for j in self.whole] for k in self.whole]) in (1, -1)


def need_few_tables(rests, most):
    """Refuse rests of finite places for which there are more tables than so many."""
    many = 1
    for rest in rests:
        for _ in rests:
            many = many * rest
    if many > most:
        raise TooMany(most)


def keeping_rows(rests, rest):
    """The ascending list of the rows of a place with a rest, in tables that keep the rests."""
    found = [()]
    for further in rests:
        least = rest // gcd(rest, further)
        found = [row + (entry,) for row in found for entry in range(0, rest, least)]
    return found


def one_to_one_tables(rests):
    """The ascending list of the tables that lead all values with finite rests one to one."""
    tables = [()]
    for rest in rests:
        rows = keeping_rows(rests, rest)
        tables = [table + (row,) for table in tables for row in rows]
    asked = OneToOne(rests)
    return [table for table in tables if asked.does_fit(table)]
