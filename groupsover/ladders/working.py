"""Ladder rows and their changes, as integers at places, and the lists of their classes."""

from groupsover.base.equations import Solver
from groupsover.base.middles import list_between, middle_rows, place_rows
from groupsover.base.reckoning import has_value, multiple_of, reduced
from groupsover.base.sparse import rank_of_rows, torsion_list
from groupsover.ladders.sums import rows_of_table


def has_ladder_row(floor, value, wide):
    """Whether the value is a tuple of so many values of the floor."""
    return isinstance(value, tuple) and len(value) == wide and all([has_value(floor.rests, entry) for entry in value])


def led_ladder_row(floor, table, row):
    """What a table of sums makes of a ladder row, however long its integers are."""
    moved, found = {}, []
    for line in table:
        total = [0] * floor.places
        for column, told in enumerate(line):
            for member in told:
                if (column, member) not in moved:
                    moved[(column, member)] = plain_value(floor.tables[member], row[column])
                total = [entry + told[member] * part for entry, part in zip(total, moved[(column, member)])]
        found.append(reduced(floor.rests, total))
    return tuple(found)


def plain_value(table, value):
    """What a table makes of a value, without its rests."""
    return [sum([entry * part for entry, part in zip(row, value)]) for row in table]


def ladder_row_of(floor, entries):
    """The ladder row with some integers at its places, one after the other."""
    places = floor.places
    return tuple([reduced(floor.rests, entries[at:at + places]) for at in range(0, len(entries), places)])


def source_of_ladder_row(floor, table, row):
    """A ladder row of which a table of sums makes the row, None if there is none."""
    entries = [entry for value in row for entry in value]
    wanted = {at: entry for at, entry in enumerate(entries) if entry}
    many = len(table[0]) * floor.places
    rows = place_rows(floor, rows_of_table(table))
    found = Solver(floor.rests * len(table), rows, many, [wanted]).solved({0: 1})
    return None if found is None else ladder_row_of(floor, found)


def list_of_ladder(floor, tables, step):
    """The list of the ladder rows with the change 0 modulo changes, in a ladder that is exact to the step above."""
    upper = rows_of_table(tables[step])
    if step:
        return list_between(floor, rows_of_table(tables[step - 1]), upper)
    rests, further, rows = floor.rests, floor.rests * len(upper), place_rows(floor, upper)
    whole = [{spot: row[spot] for spot in row if not rests[spot]} for row, rest in zip(rows, further) if not rest]
    zeros = len([rest for rest in rests if not rest]) - rank_of_rows(whole)
    return torsion_list(middle_rows(rests, [], rows, further), multiple_of(rests)) + (0,) * zeros
