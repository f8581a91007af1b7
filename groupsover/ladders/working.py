"""Ladder rows and their changes, as integers at places, and the lists of their classes."""

from groupsover.base.equations import Solver
from groupsover.base.reckoning import has_value, multiple_of, reduced
from groupsover.base.sparse import rank_of_rows, torsion_list


def has_ladder_row(floor, value, wide):
    """Whether the value is a tuple of so many values of the floor."""
    return isinstance(value, tuple) and len(value) == wide and all([has_value(floor.rests, entry) for entry in value])


def led_ladder_row(floor, table, row):
    """What a table of sums makes of a ladder row, however long its integers are."""
    moved, found = {}, []
    for line in table:
        total = [0] * floor.places
        for column, told in enumerate(line):
            for member in told:
                if (column, member) not in moved:
                    moved[(column, member)] = plain_value(floor.tables[member], row[column])
                total = [entry + told[member] * part for entry, part in zip(total, moved[(column, member)])]
        found.append(reduced(floor.rests, total))
    return tuple(found)


def plain_value(table, value):
    """What a table makes of a value, without its rests."""
    return [sum([entry * part for entry, part in zip(row, value)]) for row in table]


def sum_table(floor, told):
    """The table of what a sum of members makes of values."""
    found = [[0] * floor.places for _ in range(floor.places)]
    for member in told:
        found = [[entry + told[member] * part for entry, part in zip(row, line)]
                 for row, line in zip(found, floor.tables[member])]
    return [reduced((rest,) * floor.places, row) for row, rest in zip(found, floor.rests)]


def change_rows(floor, table):
    """For each row of a table of sums and each place, how it hangs on the places of a ladder row."""
    places, found = floor.places, []
    for line in table:
        tables = [(column, sum_table(floor, told)) for column, told in enumerate(line) if told]
        found.extend([{column * places + other: rows[place][other] for column, rows in tables
                       for other in range(places) if rows[place][other]} for place in range(places)])
    return found


def ladder_row_of(floor, entries):
    """The ladder row with some integers at its places, one after the other."""
    places = floor.places
    return tuple([reduced(floor.rests, entries[at:at + places]) for at in range(0, len(entries), places)])


def source_of_ladder_row(floor, table, row):
    """A ladder row of which a table of sums makes the row, None if there is none."""
    entries = [entry for value in row for entry in value]
    wanted = {at: entry for at, entry in enumerate(entries) if entry}
    many = len(table[0]) * floor.places
    found = Solver(floor.rests * len(table), change_rows(floor, table), many, [wanted]).solved({0: 1})
    return None if found is None else ladder_row_of(floor, found)


def turned_rows(rows, many):
    """Rows of entries by their columns."""
    found = [{} for _ in range(many)]
    for at, row in enumerate(rows):
        for spot in row:
            found[spot][at] = row[spot]
    return found


def middle_rows(rests, makers, rows, further):
    """Rows whose steps tell what the rows take to 0, modulo what some makers tell.

    The rests are those of the middle, `further` those of what the rows make. Makers, and rests times
    places, come to 0 only modulo rests; how many times each rest this is stands behind them.
    """
    columns = turned_rows(rows, len(rests))
    finite = [{at: rest} for at, rest in enumerate(rests) if rest]
    found = []
    for line in makers + finite:
        taken = {}
        for at in line:
            for spot in columns[at]:
                taken[spot] = taken.get(spot, 0) + line[at] * columns[at][spot]
        told = dict(line)
        for spot in taken:
            if further[spot] and taken[spot]:
                told[len(rests) + spot] = -taken[spot] // further[spot]
        found.append(told)
    return found


def list_of_ladder(floor, tables, step):
    """The list of the ladder rows with the change 0 modulo changes, in a ladder that is exact to the step above."""
    upper = tables[step]
    rests, further = floor.rests * len(upper[0]), floor.rests * len(upper)
    rows = change_rows(floor, upper)
    if step == 0:
        whole = [{spot: row[spot] for spot in row if not rests[spot]} for row, rest in zip(rows, further) if not rest]
        zeros = len([rest for rest in rests if not rest]) - rank_of_rows(whole)
        return torsion_list(middle_rows(rests, [], rows, further), multiple_of(rests)) + (0,) * zeros
    lower = tables[step - 1]
    makers = turned_rows(change_rows(floor, lower), len(lower[0]) * floor.places)
    return torsion_list(middle_rows(rests, makers, rows, further), floor.group.size)
