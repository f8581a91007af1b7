"""Rows of sums of members as integers at places, and the lists of what they take to 0 modulo what others make.

A row of sums is here a dict from columns to sums, which are dicts from members to integers.
"""

from math import gcd

from groupsover.base.reckoning import multiple_of
from groupsover.base.sparse import torsion_list


def entries_of_tables(floor, members):
    """For some members the rows of their tables as lists of pairs of a place and an entry other than 0."""
    return {member: [[(place, entry) for place, entry in enumerate(row) if entry] for row in floor.tables[member]]
            for member in members}


def place_rows(floor, lines):
    """For each row of sums and each place, how it hangs on the places of values, one after the other."""
    places, found = floor.places, []
    known = entries_of_tables(floor, {member: True for line in lines for told in line.values() for member in told})
    for line in lines:
        rows = [{} for _ in range(places)]
        for column in line:
            for member in line[column]:
                add_entries(rows, known[member], column * places, line[column][member])
        found.extend([left_by_rest(row, rest) for row, rest in zip(rows, floor.rests)])
    return found


def add_entries(rows, entries, start, times):
    """Add so many times the entries of a table to rows, from a column on."""
    for row, pairs in zip(rows, entries):
        for place, entry in pairs:
            row[start + place] = row.get(start + place, 0) + times * entry


def left_by_rest(row, rest):
    """A row without the entries that are 0 modulo a rest."""
    return {spot: row[spot] for spot in row if (row[spot] % rest if rest else row[spot])}


def turned_rows(rows, many):
    """Rows of entries by their columns."""
    found = [{} for _ in range(many)]
    for at, row in enumerate(rows):
        for spot in row:
            found[spot][at] = row[spot]
    return found


def middle_rows(rests, makers, rows, further):
    """Rows whose steps tell what the rows take to 0, modulo what some makers tell.

    The rests are those of the middle, `further` those of what the rows make. Makers, and rests times
    places, come to 0 only modulo rests; how many times each rest this is stands behind them.
    """
    many = len(rests)
    columns = turned_rows([row if rest else {} for row, rest in zip(rows, further)], many)
    found = []
    for line in makers:
        told, taken = dict(line), {}
        for at in line:
            for spot in columns[at]:
                taken[spot] = taken.get(spot, 0) + line[at] * columns[at][spot]
        for spot in taken:
            if taken[spot]:
                told[many + spot] = -taken[spot] // further[spot]
        found.append(told)
    for at, rest in enumerate(rests):
        if rest:
            told = {many + spot: -rest * columns[at][spot] // further[spot] for spot in columns[at]}
            told[at] = rest
            found.append(told)
    return found


def used_columns(rows):
    """The columns of rows of entries that have any, as rows of entries."""
    found = {}
    for at, row in enumerate(rows):
        for spot in row:
            found.setdefault(spot, {})[at] = row[spot]
    return list(found.values())


def deciding_order(floor):
    """A number that all finite orders of classes divide: |G|, if need be by the primes of the rests alone."""
    if not floor.is_finite:
        return floor.group.size
    order, left = 1, floor.group.size
    divisor = gcd(left, multiple_of(floor.rests))
    while divisor > 1:
        order, left = order * divisor, left // divisor
        divisor = gcd(left, divisor)
    return order


def list_between(floor, lower, upper):
    """The list of the values that rows of sums take to 0, modulo what others make, where each order divides |G|."""
    order = deciding_order(floor)
    if order == 1:
        return ()
    rests, makers = floor.rests * len(lower), used_columns(place_rows(floor, lower))
    return torsion_list(middle_rows(rests, makers, place_rows(floor, upper), floor.rests * len(upper)), order)
