"""Rows on a seen floor, moved by a member, or carried back to the whole group, without checks."""

from groupsover.base.groups import leaders_of, moved_members
from groupsover.base.reckoning import led_value
from groupsover.rows.plain import add_to, row_of_sums, tidy_row


def carried_entries(floor, part, row):
    """The row that a row on the seen floor becomes, summed up over the leaders of the cosets."""
    group, sums = floor.group, {}
    leaders = leaders_of(group.all_products, part)
    for members in row:
        known = tuple([part[index] for index in members])
        for leader in leaders:
            back = group.all_inverses[leader]
            value = led_value(floor.rests, floor.tables[back], row[members])
            for spot in carried_spots(group, leaders, leader, known):
                add_to(sums, spot, 1, value)
    return row_of_sums(floor.rests, sums)


def carried_spots(group, leaders, leader, known):
    """All tuples of members that lead from a leader on by the known members of the part."""
    products, found = group.all_products, [((), leader)]
    for inner in known:
        # the leader ahead, times the member looked for, is the inner member times a leader
        found = [(spot + (products[group.all_inverses[last]][products[inner][further]],), further)
                 for spot, last in found for further in leaders]
    return [spot for spot, _ in found]


def moved_entries(floor, part, member, row):
    """The row seen from the moved part that a member makes of a row on the seen floor."""
    products, back = floor.group.all_products, floor.group.all_inverses[member]
    moved = moved_members(floor.group, part, member)
    index_of = {inner: index for index, inner in enumerate(moved)}
    turned = [index_of[products[products[member][inner]][back]] for inner in part]
    table = floor.tables[member]
    return tidy_row({tuple([turned[index] for index in members]): led_value(floor.rests, table, row[members])
                     for members in row})
