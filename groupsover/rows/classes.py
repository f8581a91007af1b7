"""The classes of closed rows of one step: the list, makers, and the place of a row among them."""

from groupsover.base.diagonals import Diagonal
from groupsover.base.echelon import Echelon, lead_of, take_off
from groupsover.base.groups import few_makers
from groupsover.rows.plain import add_to, all_tuples, change_behind, change_of, cleaned, row_of_sums, summed_of
from groupsover.rows.plain import tidy_row
from groupsover.rows.solving import deciding_number, unit_value


class CleanSpots:
    """Clean rows of one step as rows of an echelon: their least spots have the greatest columns."""

    def __init__(self, floor, step):
        self.floor_rests = floor.rests
        tuples = all_tuples(list(range(1, floor.group.size)), step)
        self.spots = [(members, place) for members in reversed(tuples) for place in reversed(range(floor.places))]
        self.column_of = {spot: column for column, spot in enumerate(self.spots)}

    def rests_of(self):
        """The rest at each column."""
        return [self.floor_rests[place] for _, place in self.spots]

    def entries(self, row, scales, modulus):
        """A clean row by its columns, multiplied by a scale for each place, modulo a number."""
        found = {}
        for members in row:
            for place, entry in enumerate(row[members]):
                scaled = entry * scales[place] % modulus
                if scaled:
                    found[self.column_of[(members, place)]] = scaled
        return found

    def row_of(self, entries):
        """The row with some entries at the columns."""
        sums = {}
        for column in entries:
            members, place = self.spots[column]
            add_to(sums, members, entries[column], unit_value(self.floor_rests, place))
        return row_of_sums(self.floor_rests, sums)

    def unit_rows(self):
        """The rows with one entry, which is 1, by their columns."""
        return [{members: unit_value(self.floor_rests, place)} for members, place in self.spots]


def closed_pivots(floor, step, modulus):
    """Pivots for all clean rows that are closed modulo a number, by their columns.

    A change that is 0 at all tuples that begin with a maker is 0, so no others are asked.
    """
    spots, further = CleanSpots(floor, step), CleanSpots(floor, step + 1)
    makers = few_makers(floor.group)
    scales = [modulus // rest if rest else 1 for rest in floor.rests]
    many = len(spots.spots)
    found = Echelon(modulus, 0)
    for column, row in enumerate(spots.unit_rows()):
        entries = further.entries(change_behind(floor, step, row, makers), scales, modulus)
        line = {many + at: entries[at] for at in entries}
        line[column] = 1
        found.work_in(line)
    return {lead: found.pivots[lead] for lead in sorted(found.pivots) if lead < many}


def change_echelon(floor, step, modulus):
    """The echelon of all changes of clean rows, and of what the rests make 0, modulo a number."""
    spots = CleanSpots(floor, step)
    found = Echelon(modulus, 0)
    for row in CleanSpots(floor, step - 1).unit_rows():
        found.work_in(spots.entries(change_of(floor, step - 1, row), [1] * floor.places, modulus))
    for column, rest in enumerate(spots.rests_of()):
        found.work_in({column: rest})
    return found


def lifted(floor, step, row):
    """The closed row that differs from a row, closed modulo |G| times the deciding number, by multiples of the latter.

    The change of such a row, divided by |G| times this number, is closed where there are whole
    numbers, so |G| times it is the change of its sums.
    """
    number = deciding_number(floor)
    change = change_of(floor, step, row)
    parts = {members: tuple([0 if rest else entry // (number * floor.group.size)
                             for entry, rest in zip(change[members], floor.rests)]) for members in change}
    sums = {members: list(row[members]) for members in row}
    taken = summed_of(floor.rests, step + 1, tidy_row(parts))
    for members in taken:
        add_to(sums, members, -number, taken[members])
    return row_of_sums(floor.rests, sums)


def small_like(floor, step, row):
    """A closed row of the class of a closed row, with integers that do not grow with it."""
    modulus = deciding_number(floor) * floor.group.size
    small = {members: tuple([entry % modulus for entry in row[members]]) for members in row}
    return lifted(floor, step, small)


class Classes:
    """The classes of closed rows of one step, the step being from 1 on.

    Closed rows that can be closed with whole numbers are those that are closed modulo |G| times the
    deciding number, asked modulo this number alone. They and the changes are worked into echelons
    with the same columns. Where the leads differ, `kept` has a closed row that is no change.
    """

    def __init__(self, floor, step):
        self.told_floor = floor
        self.step = step
        self.number = deciding_number(floor)
        self.spots = CleanSpots(floor, step)
        closed = closed_pivots(floor, step, self.number * floor.group.size)
        self.closed_rows = [closed[lead] for lead in closed]
        self.changes = change_echelon(floor, step, self.number)
        many, pivots = len(self.closed_rows), self.worked_closed()
        self.closed = {lead - many: {k - many: pivots[lead][k] for k in pivots[lead] if k >= many} for lead in pivots}
        self.takings = {lead - many: {k: pivots[lead][k] for k in pivots[lead] if k < many} for lead in pivots}
        self.ratios = {lead: self.changes.lead_size(lead) // self.closed[lead][lead] for lead in self.closed}
        self.kept = [lead for lead in sorted(self.closed) if self.ratios[lead] > 1]
        self.diagonal = Diagonal([self.relation(lead) for lead in self.kept], len(self.kept), floor.group.size)
        sizes = self.diagonal.step_sizes()
        self.used = [k for k in range(len(sizes)) if sizes[k] > 1]
        self.sizes = tuple([sizes[k] for k in self.used])

    def worked_closed(self):
        """Pivots for the closed rows modulo the deciding number; below them, how many of each row they take."""
        many = len(self.closed_rows)
        found = Echelon(self.number, many)
        for index, row in enumerate(self.closed_rows):
            line = {many + column: row[column] for column in row}
            line[index] = 1
            found.work_in(line)
        return found.pivots

    def relation(self, lead):
        """How a multiple of a kept row that has the lead of a change is told by kept rows below."""
        row = self.closed[lead]
        times = self.ratios[lead]
        shares = self.shares({column: times * row[column] % self.number for column in row})
        return [times - share if kept == lead else -share for kept, share in zip(self.kept, shares)]

    def shares(self, entries):
        """How many of each kept row a closed row has, but for changes."""
        left = {column: entries[column] for column in entries if entries[column]}
        found = {}
        while left:
            lead = lead_of(left)
            times = left[lead] // self.closed[lead][lead] % self.ratios[lead]
            found[lead] = times
            take_off(left, times, self.closed[lead], self.number)
            if lead in left:
                take_off(left, left[lead] // self.changes.lead_size(lead), self.changes.pivots[lead], self.number)
        return [found.get(lead, 0) for lead in self.kept]

    def place(self, row):
        """How many of each maker add up to a row of the class of a closed row."""
        clean, _ = cleaned(self.told_floor, self.step, row)
        shares = self.shares(self.spots.entries(clean, [1] * self.told_floor.places, self.number))
        return tuple([sum([share * turn for share, turn in zip(shares, self.diagonal.mixes[k])]) % size
                      for k, size in zip(self.used, self.sizes)])

    def makers(self):
        """A closed row for each integer of the list."""
        return tuple([self.maker(self.diagonal.backs[k]) for k in self.used])

    def maker(self, shares):
        """The closed row of so many of each kept row."""
        counts = {}
        for share, lead in zip(shares, self.kept):
            for index in self.takings[lead]:
                counts[index] = counts.get(index, 0) + share * self.takings[lead][index]
        entries = {}
        for index in counts:
            for column in self.closed_rows[index]:
                entries[column] = entries.get(column, 0) + counts[index] * self.closed_rows[index][column]
        modulus = self.number * self.told_floor.group.size
        row = self.spots.row_of({column: entries[column] % modulus for column in entries})
        return lifted(self.told_floor, self.step, row)
