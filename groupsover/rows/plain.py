"""Rows without checks: what is done with them, however long their integers become."""

from groupsover.base.checks import is_short
from groupsover.base.groups import few_makers
from groupsover.base.reckoning import led_value, reduced, sum_of_values


def all_tuples(members, step):
    """The ascending list of all tuples of so many of some ascending members."""
    found = [()]
    for _ in range(step):
        found = [ahead + (member,) for ahead in found for member in members]
    return found


def tidy_row(row):
    """A row with ascending keys and without values of zeros alone."""
    return {members: row[members] for members in sorted(row) if any(list(row[members]))}


def row_of_sums(rests, sums):
    """The row of values that were added up without their rests."""
    found = {members: reduced(rests, sums[members]) for members in sums}
    return {members: found[members] for members in sorted([spot for spot in found if any(list(found[spot]))])}


def add_to(sums, members, times, value):
    """Add so many times a value at a tuple."""
    if members in sums:
        known = sums[members]
        for place, part in enumerate(value):
            known[place] += times * part
    else:
        sums[members] = [times * part for part in value]


def change_of(floor, step, row):
    """The change of a row."""
    return change_behind(floor, step, row, list(range(floor.group.size)))


def change_behind(floor, step, row, firsts):
    """The change of a row at the tuples with some first members, each value being led to where it is asked for."""
    group, rests, tables, sums = floor.group, floor.rests, floor.tables, {}
    last = 1 if step % 2 else -1
    for members in row:
        value = row[members]
        for member in firsts:
            add_to(sums, (member,) + members, 1, led_value(rests, tables[member], value))
        lasts = lasts_of(group, members, firsts)
        for member in lasts:
            add_to(sums, members + (member,), last, value)
        for spot, sign in split_spots(group, members, firsts, lasts):
            add_to(sums, spot, sign, value)
    return row_of_sums(rests, sums)


def lasts_of(group, members, firsts):
    """The members behind a tuple for which it has one of some as its first member."""
    if not members:
        return firsts
    return list(range(group.size)) if members[0] in firsts else []


def split_spots(group, members, firsts, others):
    """All tuples in which one member of a tuple stands as a product of two, each with its sign in the change.

    The first one of the two is one of some if it comes first, and one of some others otherwise.
    """
    products, inverses, found = group.all_products, group.all_inverses, []
    for at, member in enumerate(members):
        sign, ahead, behind = 1 if at % 2 else -1, members[:at], members[at + 1:]
        found.extend([(ahead + (left, products[inverses[left]][member]) + behind, sign)
                      for left in (others if at else firsts)])
    return found


def is_closed_row(floor, step, row):
    """Whether the change of a row is 0; it is if it is 0 at all tuples that begin with a maker."""
    return not change_behind(floor, step, row, few_makers(floor.group))


def sum_of_rows(rests, row, times, further):
    """A row, and so many times a further one."""
    zero = (0,) * len(rests)
    return tidy_row({members: sum_of_values(rests, row.get(members, zero), times, further.get(members, zero))
                     for members in list(row) + list(further)})


def times_of_row(rests, number, row):
    """So many times a row."""
    return tidy_row({members: reduced(rests, [number * entry for entry in row[members]]) for members in row})


def mapped_values(rests, table, row):
    """The row of what a table makes of the values, the rests being those of the result."""
    return tidy_row({members: led_value(rests, table, row[members]) for members in row})


def summed_of(rests, step, row):
    """The sums over the last member, with the sign of the step."""
    sums = {}
    for members in row:
        add_to(sums, members[:-1], -1 if step % 2 else 1, row[members])
    return row_of_sums(rests, sums)


def cleaned(floor, step, row):
    """A clean row of the class of a closed row, and the row whose change, added to it, is the closed one."""
    clean, lower = tidy_row(row), {}
    # a closed row that is 0 wherever one of its members but the last one is 0 is clean
    for at in range(step - 1):
        taken = times_of_row(floor.rests, -1 if at % 2 else 1, without_member(clean, at))
        lower = sum_of_rows(floor.rests, lower, 1, taken)
        clean = sum_of_rows(floor.rests, clean, -1, change_of(floor, step - 1, taken))
    return clean, lower


def without_member(row, at):
    """The row that asks a row at tuples with a further 0 at one place."""
    return {members[:at] + members[at + 1:]: row[members] for members in row if members[at] == 0}


def is_clean_row(row):
    """Whether a row is 0 at each tuple that has the member 0."""
    return not any([0 in members for members in row])


def are_short_values(row):
    """Whether no value of a row has an integer of more than sixty digits."""
    return all([is_short(entry) for members in row for entry in row[members]])


def seen_entries(part, row):
    """What a row tells at tuples of members of a part, which are told by their indices."""
    index_of = {member: index for index, member in enumerate(part)}
    return tidy_row({tuple([index_of[member] for member in members]): row[members] for members in row
                     if all([member in index_of for member in members])})
