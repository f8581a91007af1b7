"""Equations between integers, solved by taking one unknown after the other out of them.

An equation is a dict from unknowns, which are counted from 0 on, and from givens, which are counted from
-1 down, to factors other than 0; all products add up to 0. Most equations of ladders have an unknown with
the factor 1 or -1, which the others tell; only where none is left, unknowns are mixed.
"""

from groupsover.base.checks import is_short
from groupsover.base.echelon import Span
from groupsover.base.reckoning import multiple_of
from groupsover.base.sparse import Sparse

# idle unknowns that are nearly alike would shorten others by little each time
MOST_TURNS = 100


class Equations:
    """Equations that are worked off until all unknowns are told by givens and by free unknowns."""

    def __init__(self, rows, many):
        self.many = many
        self.sparse = Sparse(rows, 0)
        self.deeds = []
        taken = {}
        while self.sparse.left:
            spot = self.sparse.unit_spot()
            if spot is None:
                self.mix()
            else:
                key, unknown = spot
                row = self.sparse.work_out(key, unknown)
                self.deeds.append(("told", unknown, row[unknown], row))
                taken[unknown] = True
        self.free = [unknown for unknown in range(many) if unknown not in taken and unknown not in self.sparse.barred]

    def unknowns_of(self, row):
        """The unknowns of a row that are not fixed by givens, those with the least factors first."""
        return sorted([(abs(row[spot]), spot) for spot in row if spot >= 0 and spot not in self.sparse.barred])

    def mix(self):
        """Bring one row, which has no unknown with the factor 1, nearer to having just one unknown."""
        counted = [(len(self.unknowns_of(self.sparse.left[key])), key) for key in self.sparse.left]
        many, key = min(counted)
        row = self.sparse.left[key]
        if many == 0:
            # no unknown is counted as far as this one
            self.deeds.append(("none", self.many, 0, self.sparse.take_out(key)))
        elif many == 1:
            unknown = self.unknowns_of(row)[0][1]
            self.sparse.barred[unknown] = True
            self.deeds.append(("fixed", unknown, row[unknown], self.sparse.take_out(key)))
        else:
            known = self.unknowns_of(row)
            least = known[0][1]
            for _, further in known[1:]:
                times = (2 * row[further] + row[least]) // (2 * row[least])
                if times:
                    self.turn(least, times, further)

    def turn(self, unknown, times, further):
        """Let an unknown stand for itself and so many times a further one."""
        for key in list(self.sparse.holders[unknown]):
            self.sparse.add_times(key, -times * self.sparse.left[key][unknown], {further: 1})
        self.deeds.append(("mixed", unknown, times, further))

    def solved(self, start):
        """The unknowns for some givens and free unknowns, None if there are none; others are 0."""
        values = dict(start)
        for kind, unknown, factor, told in self.deeds:
            if kind == "none" and total_but(told, values, unknown) != 0:
                return None
            if kind == "fixed":
                total = total_but(told, values, unknown)
                if total % factor:
                    return None
                values[unknown] = -total // factor
        for kind, unknown, factor, told in reversed(self.deeds):
            if kind == "told":
                values[unknown] = -factor * total_but(told, values, unknown)
            elif kind == "mixed":
                values[unknown] = values.get(unknown, 0) - factor * values.get(told, 0)
        return [values.get(unknown, 0) for unknown in range(self.many)]

    def idle(self):
        """Unknowns, one list for each free one, that all equations take to 0; all such are sums of these."""
        return [self.solved({unknown: 1}) for unknown in self.free]


def total_but(row, values, left_out):
    """What a row comes to without one spot."""
    return sum([row[spot] * values.get(spot, 0) for spot in row if spot != left_out])


class Solver:
    """Rows of factors that are to come to sums of some goals, each row modulo its rest, if this is not 0.

    A row is a dict from unknowns to factors, a goal a dict from the indices of rows to integers.
    """

    def __init__(self, rests, rows, many, goals):
        self.many = many
        self.goals = goals
        self.modulus = multiple_of(rests) if all(list(rests)) else 0
        if self.modulus:
            # where no rest is 0, everything can be asked modulo one number
            self.scales = [self.modulus // rest for rest in rests]
            self.ways = Span(self.scaled_columns(rows), self.modulus)
        else:
            self.scales = []
            self.ways = Equations(lines_of(rests, rows, many, goals), many + len([rest for rest in rests if rest]))

    def scaled_columns(self, rows):
        """For each unknown its factors, each multiplied by what the modulus is of the rest."""
        columns = [{} for _ in range(self.many)]
        for at, row in enumerate(rows):
            for spot in row:
                entry = row[spot] * self.scales[at] % self.modulus
                if entry:
                    columns[spot][at] = entry
        return columns

    def solved(self, times):
        """Unknowns for so many times each goal, given by its index, None if there are none."""
        if not self.modulus:
            found = self.ways.solved({-1 - index: times[index] for index in times})
            return None if found is None else shortened(self.ways, found)[:self.many]
        wanted = {}
        for index in times:
            goal = self.goals[index]
            for at in goal:
                wanted[at] = wanted.get(at, 0) + times[index] * goal[at] * self.scales[at]
        return self.ways.shares(wanted)


def lines_of(rests, rows, many, goals):
    """The equations of rows, with a further unknown for each rest, and the goals as givens."""
    lines, further = [], many
    for at, rest in enumerate(rests):
        line = dict(rows[at])
        if rest:
            line = {spot: nearest_rest(line[spot], rest) for spot in line if line[spot] % rest}
            line[further] = rest
            further += 1
        for index, goal in enumerate(goals):
            if goal.get(at, 0):
                line[-1 - index] = -goal[at]
        lines.append(line)
    return lines


def nearest_rest(entry, rest):
    """The least integer that leaves the same rest."""
    entry = entry % rest
    return entry - rest if 2 * entry > rest else entry


def shortened(equations, found):
    """Unknowns that are as good as some, without integers of more than sixty digits, if this can be helped."""
    if all([is_short(entry) for entry in found]):
        return found
    idle = equations.idle()
    sizes = [sum([entry * entry for entry in one]) for one in idle]
    for _ in range(MOST_TURNS):
        ahead = found
        for one, size in zip(idle, sizes):
            share = sum([entry * part for entry, part in zip(found, one)])
            if 2 * abs(share) > size:
                # so many times the idle one is nearest to what was found, and leaves less of it
                times = (2 * share + size) // (2 * size)
                found = [entry - times * part for entry, part in zip(found, one)]
        if found == ahead:
            break
    return found
