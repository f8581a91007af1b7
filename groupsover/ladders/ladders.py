"""Ladders: tables of sums of members, over which the classes of closed rows come again."""

from groupsover.base.checks import is_within, need_short
from groupsover.base.equations import Solver
from groupsover.base.floors import Floor
from groupsover.base.groups import Group, is_member, need_group
from groupsover.base.sparse import are_steps_one
from groupsover.errors import InvalidFloor, InvalidMap, InvalidNumber, InvalidOperation, InvalidRow, InvalidTable
from groupsover.errors import TooMany
from groupsover.ladders.building import bar_tables, is_round_maker, product_places, product_tables, round_tables
from groupsover.ladders.sums import are_going_to_zero, copied_tables, is_sum_table, line_of_row, plain_rows
from groupsover.ladders.sums import product_rows, row_of_line, rows_of_table
from groupsover.ladders.working import has_ladder_row, led_ladder_row, list_of_ladder, source_of_ladder_row
from groupsover.rows.rows import need_step

MOST_WIDE = 60
MOST_HEIGHT = 6
MOST_LADDERED = 300


class Ladder:
    """A group, and a table of sums of its members for each step from 1 to the height."""

    def __init__(self, group, tables):
        need_group(group)
        if not are_ladder_tables(group, tables):
            raise InvalidTable("these are no tables of a ladder")
        self._take(group, copied_tables(tables))

    def _take(self, group, tables):
        """Take tables that are known to make a ladder."""
        self._group = group
        self._tables = tables

    @property
    def laddered(self):
        """The group."""
        return self._group

    @property
    def widths(self):
        """How many rows there are in each step from 0 on."""
        return (1,) + tuple([len(table) for table in self._tables])

    @property
    def told_tables(self):
        """The tables of sums."""
        return copied_tables(self._tables)

    def _table_at(self, step):
        """The table of sums of one step, to be read alone."""
        return self._tables[step - 1]

    def __len__(self):
        return len(self._tables)

    def __eq__(self, other):
        return isinstance(other, Ladder) and self._group == other._group and self._tables == other._tables

    def __str__(self):
        return " ".join([f"ladder over {len(self._group)} members with widths"] + [str(wide) for wide in self.widths])


def are_ladder_tables(group, value):
    """Whether the value is the tuple of the tables of a ladder."""
    if not isinstance(value, tuple) or not 1 <= len(value) <= MOST_HEIGHT:
        return False
    wide = 1
    for table in value:
        if not isinstance(table, tuple) or not 1 <= len(table) <= MOST_WIDE:
            return False
        if not is_sum_table(group, table, len(table), wide):
            return False
        wide = len(table)
    return are_going_to_zero(group, value)


def settled_ladder(group, tables):
    """The ladder with tables that are known to make one."""
    ladder = Ladder(group, ((({},),),))
    ladder._take(group, tables)
    return ladder


def need_ladder(value):
    """Refuse what is no ladder."""
    if not isinstance(value, Ladder):
        raise InvalidOperation("this is no ladder")


def need_height(height):
    """Refuse what is no height of a ladder."""
    if not is_within(height, 1, MOST_HEIGHT):
        raise InvalidNumber(height)


def need_few_wide(wide):
    """Refuse a ladder that is too wide."""
    if wide > MOST_WIDE:
        raise TooMany(MOST_WIDE)


def bar_ladder(group, height):
    """The ladder with all tuples of members other than 0."""
    need_group(group)
    need_height(height)
    if group.size == 1:
        raise InvalidOperation("there is no bar ladder over one member alone")
    wide = 1
    for _ in range(height):
        wide = wide * (group.size - 1)
    need_few_wide(wide)
    return settled_ladder(group, bar_tables(group, height))


def round_ladder(group, member, height):
    """The ladder of widths 1 for a member whose powers are all members."""
    need_group(group)
    if not is_member(group, member) or not is_round_maker(group, member):
        raise InvalidNumber(member)
    need_height(height)
    return settled_ladder(group, round_tables(group, member, height))


def product_ladder(ladder, further):
    """The ladder over both groups with the pairs of rows of two ladders."""
    need_ladder(ladder)
    need_ladder(further)
    if len(ladder) != len(further):
        raise InvalidOperation("the ladders have unlike heights")
    one, other = ladder.laddered, further.laddered
    group = Group.both(one, other)
    need_few_wide(max([len(product_places(ladder.widths, further.widths, step)) for step in range(len(ladder) + 1)]))
    told, others = (ladder.widths, ladder.told_tables), (further.widths, further.told_tables)
    return settled_ladder(group, copied_tables(product_tables(told, others, other.size)))


def need_few_sums(ladder, number):
    """Refuse a ladder that is too wide for the integers of its sums to be worked with."""
    if max(ladder.widths[:number + 1]) * ladder.laddered.size > MOST_LADDERED:
        raise TooMany(MOST_LADDERED)


def is_exact(ladder, number):
    """Whether the ladder is exact to a step."""
    group = ladder.laddered
    # each step is to have as many sums as the step below leaves, and none of them as a multiple
    rank = group.size - 1
    for step in range(1, number + 1):
        table = ladder._table_at(step)
        if not are_steps_one(plain_rows(group, rows_of_table(table)), rank):
            return False
        rank = len(table) * group.size - rank
    return True


def is_exact_to(ladder, number):
    """Whether the ladder is exact to a step."""
    need_ladder(ladder)
    if not is_within(number, 1, len(ladder)):
        raise InvalidNumber(number)
    need_few_sums(ladder, number)
    return is_exact(ladder, number)


def need_laddered_floor(ladder, floor):
    """Refuse what is no ladder, and what is no floor over its group."""
    need_ladder(ladder)
    need_floor_over(ladder.laddered, floor)


def need_floor_over(group, floor):
    """Refuse what is no floor over a group."""
    if not isinstance(floor, Floor) or floor.group != group:
        raise InvalidFloor("this is no floor over the group of the ladder")


def need_ladder_row(floor, row, wide):
    """Refuse what is no ladder row."""
    if not has_ladder_row(floor, row, wide):
        raise InvalidRow("this is no ladder row of the step")


def need_few_places(ladder, floor, step):
    """Refuse steps that are too wide for the floor."""
    if max(ladder.widths[max(0, step - 1):step + 2]) * floor.places > MOST_LADDERED:
        raise TooMany(MOST_LADDERED)


def short_ladder_row(row):
    """The ladder row, unless it has too long an integer."""
    for value in row:
        need_short(value)
    return row


def ladder_change(ladder, floor, step, row):
    """The change of a ladder row."""
    need_laddered_floor(ladder, floor)
    need_step(step, 0, len(ladder) - 1)
    need_ladder_row(floor, row, ladder.widths[step])
    return short_ladder_row(led_ladder_row(floor, ladder._table_at(step + 1), row))


def ladder_source(ladder, floor, step, row):
    """A ladder row of the step less 1 whose change is the row, None if there is none."""
    need_laddered_floor(ladder, floor)
    need_step(step, 1, len(ladder))
    need_ladder_row(floor, row, ladder.widths[step])
    need_few_places(ladder, floor, step)
    return source_of_ladder_row(floor, ladder._table_at(step), row)


def ladder_list(ladder, floor, step):
    """The list of the step, by an exact ladder."""
    need_laddered_floor(ladder, floor)
    need_step(step, 0, len(ladder) - 1)
    need_few_places(ladder, floor, step)
    return list_of_ladder(floor, [ladder._table_at(at) for at in range(1, len(ladder) + 1)], step)


def need_like_ladders(ladder, further):
    """Refuse two ladders unless they are of one group and height."""
    need_ladder(ladder)
    need_ladder(further)
    if ladder.laddered != further.laddered or len(ladder) != len(further):
        raise InvalidOperation("the ladders are of unlike groups or heights")


def joined_map(ladder, further):
    """Tables that take the ladder rows of a further ladder to those of a ladder."""
    need_like_ladders(ladder, further)
    need_few_sums(ladder, len(ladder))
    need_few_sums(further, len(further))
    if not is_exact(further, len(further)):
        raise InvalidOperation("the further ladder is not exact to its height")
    group = ladder.laddered
    found = [[{0: {0: 1}}]]
    for step in range(1, len(ladder) + 1):
        wanted = product_rows(group, rows_of_table(ladder._table_at(step)), found[-1])
        found.append(rows_over(group, rows_of_table(further._table_at(step)), further.widths[step - 1], wanted))
    return tuple([tuple([line_of_row(row, wide) for row in rows]) for rows, wide in zip(found, further.widths)])


def rows_over(group, rows, wide, wanted):
    """Rows of sums that become the wanted ones, times a table that is told by its rows of sums."""
    size = group.size
    lines = [{} for _ in range(wide * size)]
    for unknown, row in enumerate(plain_rows(group, rows)):
        for spot in row:
            lines[spot][unknown] = row[spot]
    goals = [{column * size + member: row[column][member] for column in row for member in row[column]}
             for row in wanted]
    solver = Solver((0,) * (wide * size), lines, len(rows) * size, goals)
    found = [solver.solved({at: 1}) for at in range(len(goals))]
    return [row_of_line([{member: entries[at + member] for member in range(size) if entries[at + member]}
                         for at in range(0, len(entries), size)]) for entries in found]


def has_joined_map(ladder, further, value):
    """Whether the value is a joined map of two ladders of one group and height."""
    group = ladder.laddered
    if not isinstance(value, tuple) or len(value) != len(ladder) + 1:
        return False
    if not all([is_sum_table(group, table, high, wide)
                for table, high, wide in zip(value, ladder.widths, further.widths)]):
        return False
    if sum(list(value[0][0][0].values())) != 1:
        return False
    rows = [rows_of_table(table) for table in value]
    return all([product_rows(group, rows_of_table(ladder._table_at(step)), rows[step - 1])
                == product_rows(group, rows[step], rows_of_table(further._table_at(step)))
                for step in range(1, len(ladder) + 1)])


def is_joined_map(ladder, further, value):
    """Whether the value is a joined map of two ladders."""
    need_like_ladders(ladder, further)
    return has_joined_map(ladder, further, value)


def led_over(ladder, further, table, floor, step, row):
    """The ladder row of a ladder to which a joined map takes one of a further ladder."""
    need_like_ladders(ladder, further)
    if not has_joined_map(ladder, further, table):
        raise InvalidMap("this is no joined map of the ladders")
    need_floor_over(ladder.laddered, floor)
    need_step(step, 0, len(ladder))
    need_ladder_row(floor, row, further.widths[step])
    return short_ladder_row(led_ladder_row(floor, table[step], row))
