"""Whether maps of floors are exact, and values lifted and pulled along them."""

from groupsover.base.equations import Solver
from groupsover.base.middles import middle_rows, turned_rows
from groupsover.base.reckoning import joined_table, reduced_table
from groupsover.base.sparse import are_steps_one, rank_of_rows


def rows_of_map(rests, table):
    """The rows of a map as dicts, the rests being those of the result."""
    return [{place: entry for place, entry in enumerate(row) if entry} for row in reduced_table(rests, table)]


def is_exact_between(rests, makers, rows, further):
    """Whether rows take just those values to 0 that some makers make; further rests are those of the result."""
    whole = [{place: row[place] for place in row if not rests[place]} for row, rest in zip(rows, further) if not rest]
    return are_steps_one(middle_rows(rests, makers, rows, further), len(rests) - rank_of_rows(whole))


def first_inexact(floors, tables):
    """The first of the places 0, 1 and 2 at which three floors are not exact, None if there is none."""
    first, middle, last = [floor.rests for floor in floors]
    inward, outward = rows_of_map(middle, tables[0]), rows_of_map(last, tables[1])
    if not is_exact_between(first, [], inward, middle):
        return 0
    if any([entry for row in joined_table(last, tables[1], tables[0]) for entry in row]):
        return 1
    if not is_exact_between(middle, turned_rows(inward, len(first)), outward, last):
        return 1
    if not is_exact_between(last, turned_rows(outward, len(middle)), [], ()):
        return 2
    return None


class BackMap:
    """A map of floors, taken back: for a value some value that is led to it."""

    def __init__(self, floor, further, table):
        units = [{place: 1} for place in range(further.places)]
        self.solver = Solver(further.rests, rows_of_map(further.rests, table), floor.places, units)

    def value_back(self, value):
        """Integers that are led to the value, None if there are none."""
        return self.solver.solved({place: entry for place, entry in enumerate(value) if entry})

    def row_back(self, row):
        """For each value of a row integers that are led to it, None if there are none for one of them."""
        found = {members: self.value_back(row[members]) for members in row}
        return None if any([value is None for value in found.values()]) else found
