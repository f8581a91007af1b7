"""Equations between the values at ways, made fewer.

An equation is a row of sums: a dict from ways, here told by their indices, to sums of members. It says that
what the sums make of the values at the ways adds up to 0. It can be multiplied by a member from the left.
"""

from groupsover.base.sparse import PrimeSpan
from groupsover.ladders.sums import add_product, plain_rows


def sums_in(row):
    """How many members the sums of a row have together."""
    return sum([len(told) for told in row.values()])


def is_one_member(told):
    """Whether a sum is one member, or minus one."""
    return len(told) == 1 and list(told.values())[0] in (1, -1)


def with_one_at(group, row, way):
    """An equation, multiplied so that it has 1 at a way where it has one member, or minus one."""
    member = list(row[way])[0]
    back, sign = group.all_products[group.all_inverses[member]], row[way][member]
    return {at: {back[inner]: sign * row[at][inner] for inner in row[at]} for at in row}


class WayRows:
    """Equations from which ways are taken off, each by one equation that tells it by other ways.

    `told` has the ways that are taken off, `left_rows` the equations between all others. For each way `holders` has the
    equations that have it; `bare` has those that have no way with one member, or minus one.
    """

    def __init__(self, group, equations):
        self.rows_over = group
        self.left_rows = {key: dict(row) for key, row in enumerate(equations) if row}
        self.sizes = {key: sums_in(self.left_rows[key]) for key in self.left_rows}
        self.holders, self.bare, self.told = {}, {}, {}
        for key in self.left_rows:
            for way in self.left_rows[key]:
                self.holders.setdefault(way, {})[key] = True
        spot = self.next_spot()
        while spot is not None:
            self.take_way(spot[0], spot[1])
            spot = self.next_spot()

    def next_spot(self):
        """The least equation that tells a way by others, and a way that few others have; None if there is none."""
        while len(self.bare) < len(self.left_rows):
            key = min([(self.sizes[key], key) for key in self.left_rows if key not in self.bare])[1]
            row = self.left_rows[key]
            ways = [(len(self.holders[way]), -way) for way in row if is_one_member(row[way])]
            if ways:
                return key, -min(ways)[1]
            self.bare[key] = True
        return None

    def take_way(self, key, way):
        """Take a way off all equations by one that tells it."""
        row = with_one_at(self.rows_over, self.left_rows.pop(key), way)
        for at in row:
            self.holders[at].pop(key)
        self.told[way] = True
        for other in list(self.holders[way]):
            self.take_off(other, way, row)

    def take_off(self, key, way, told):
        """Take a way off one equation."""
        row = self.left_rows[key]
        less = {member: -row[way][member] for member in row[way]}
        for at in told:
            cell = dict(row.get(at, {}))
            add_product(self.rows_over, cell, less, told[at])
            row[at] = {member: cell[member] for member in cell if cell[member]}
            self.holders[at][key] = True
            if not row[at]:
                row.pop(at)
                self.holders[at].pop(key)
        self.sizes[key] = sums_in(row)
        self.bare.pop(key, None)
        if not row:
            self.left_rows.pop(key)


def enough_at(group, equations, rank, prime):
    """The first of some equations that make all of them, where it is enough to divide by other primes.

    Moved by all members they make as many as the rank modulo the prime, if so many come of them all.
    """
    span, found = PrimeSpan(prime), []
    for equation in sorted(equations, key=sums_in):
        if span.many_rows() < rank:
            rows = plain_rows(group, [equation])
            # what is made is made for all members
            if span.take_in(rows[0]):
                found.append(equation)
                for row in rows[1:]:
                    span.take_in(row)
    return found
