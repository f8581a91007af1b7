"""Whether a closed row is a change: by the changes of all rows with one entry, modulo one number."""

from groupsover.base.echelon import Span
from groupsover.base.groups import few_makers
from groupsover.base.reckoning import multiple_of
from groupsover.base.tables import ratio_of
from groupsover.rows.plain import add_to, all_tuples, change_behind, change_of, row_of_sums, sum_of_rows
from groupsover.rows.plain import summed_of, tidy_row


def deciding_number(floor):
    """The number modulo which it is decided at whole places whether a closed row is a change."""
    return floor.group.size * multiple_of(floor.rests)


def unit_value(rests, place):
    """The value with 1 at one place and 0 elsewhere."""
    return tuple([1 if k == place else 0 for k in range(len(rests))])


def tree_of(group, makers):
    """How early each pair of a maker and a member is the first one to lead to its product.

    The tree begins with the makers themselves, and has one pair for each other member.
    """
    found = {}
    queue = list(makers)
    reached = {maker: True for maker in makers}
    at = 0
    while at < len(queue):
        for maker in makers:
            further = group.all_products[maker][queue[at]]
            if further not in reached:
                reached[further] = True
                found[(maker, queue[at])] = len(found)
                queue.append(further)
        at += 1
    return found


class Changes:
    """The changes of all rows of the step less 1, where they are asked at tuples that begin with a maker.

    A closed row that is 0 at all these tuples is 0, so nothing more has to be asked. At a place with
    a rest everything is multiplied by what the one number is of the rest.
    """

    def __init__(self, floor, step):
        self.told_floor = floor
        self.step = step
        self.number = deciding_number(floor)
        self.scales = [self.number // rest if rest else 1 for rest in floor.rests]
        makers = few_makers(floor.group)
        self.firsts = makers
        self.asked = asked_tuples(floor.group, makers, step)
        self.places_of = {members: k * floor.places for k, members in enumerate(self.asked)}
        self.spots = [(members, place) for members in told_tuples(floor.group, makers, step - 1)
                      for place in range(floor.places)]
        self.span = Span([self.column(members, place) for members, place in self.spots], self.number)

    def column(self, members, place):
        """What is asked of the change of a row with one entry."""
        value = unit_value(self.told_floor.rests, place)
        return self.asked_entries(change_behind(self.told_floor, self.step - 1, {members: value}, self.firsts))

    def asked_entries(self, row):
        """What is asked of a row."""
        found = {}
        for members in row:
            if members in self.places_of:
                for place, entry in enumerate(row[members]):
                    found[self.places_of[members] + place] = entry * self.scales[place] % self.number
        return found

    def small_source(self, row):
        """A row whose change is the row modulo the one number, None if there is none."""
        shares = self.span.shares(self.asked_entries(row))
        if shares is None:
            return None
        sums = {}
        for share, (members, place) in zip(shares, self.spots):
            add_to(sums, members, share, unit_value(self.told_floor.rests, place))
        return row_of_sums(self.told_floor.rests, sums)

    def source(self, row):
        """A row whose change is the closed row, None if there is none."""
        rests, group = self.told_floor.rests, self.told_floor.group
        # the mean of the row is nearly a source at whole places, so only little is left to be found
        mean = nearest_part(rests, summed_of(rests, self.step, row), group.size)
        left = sum_of_rows(rests, row, -1, change_of(self.told_floor, self.step - 1, mean))
        small = self.small_source(left)
        if small is None:
            return None
        left = sum_of_rows(rests, left, -1, change_of(self.told_floor, self.step - 1, small))
        # what is left now has multiples of the one number at whole places and 0 elsewhere
        exact = summed_of(rests, self.step, nearest_part(rests, left, group.size))
        return sum_of_rows(rests, sum_of_rows(rests, mean, 1, small), 1, exact)

    def test(self, row):
        """A test whose value at the row is not (0, 1), None if there is none."""
        factors = self.span.bar(self.asked_entries(row))
        if factors is None:
            return None
        found = {}
        for members in sorted(self.asked):
            at = self.places_of[members]
            ratios = tuple([ratio_of(factors.get(at + place, 0) * scale, self.number)
                            for place, scale in enumerate(self.scales)])
            if any([top for top, _ in ratios]):
                found[members] = ratios
        return found

    def order(self, row):
        """The least number from 1 on so many times which the closed row is a change."""
        return self.span.order_of(self.asked_entries(row))


def told_tuples(group, makers, step):
    """All tuples, first those that begin with no maker, for there the tree tells a row at once."""
    tuples = all_tuples(list(range(group.size)), step)
    starts = [(maker,) for maker in makers]
    return ([members for members in tuples if members[:1] not in starts]
            + [members for members in tuples if members[:1] in starts])


def asked_tuples(group, makers, step):
    """The tuples that begin with a maker, those that the tree tells last, the earliest of them at the end."""
    tree = tree_of(group, makers)
    behind = all_tuples(list(range(group.size)), step - 1)
    tuples = [(maker,) + members for maker in makers for members in behind]
    return sorted(tuples, key=lambda members: (-tree.get(members[:2], len(tree)), members))


def nearest_part(rests, row, number):
    """The row divided by a number, to the nearest integers, at whole places, and 0 elsewhere."""
    return tidy_row({members: tuple([0 if rest else (2 * entry + number) // (2 * number)
                                     for entry, rest in zip(row[members], rests)]) for members in row})
