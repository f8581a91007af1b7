"""Ratio rows as integers over one bottom, without checks.

A row of tops is a dict from tuples of members to integers, which are reckoned modulo the bottom.
"""

from math import gcd, lcm

from groupsover.base.checks import is_ratio
from groupsover.base.echelon import Span
from groupsover.base.floors import Floor
from groupsover.base.groups import few_makers, is_member
from groupsover.base.sparse import torsion_list
from groupsover.base.tables import ratio_of
from groupsover.rows.closed import MAX_BOTTOM
from groupsover.rows.plain import all_tuples, change_behind


def bottom_of(row):
    """The least common multiple of all bottoms."""
    multiple = 1
    for members in row:
        multiple = lcm(multiple, row[members][1])
    return multiple


def has_few_bottoms(row):
    """Whether the least common multiple of all bottoms is not too great."""
    multiple = 1
    for members in row:
        bottom = row[members][1]
        multiple = bottom if bottom > MAX_BOTTOM else lcm(multiple, bottom)
        if multiple > MAX_BOTTOM:
            return False
    return True


def has_ratio_row(group, step, value):
    """Whether the value is a ratio row for the step."""
    if not isinstance(value, dict) or not all([is_spot(group, step, members) for members in value]):
        return False
    if not all([is_ratio(ratio) and ratio[0] > 0 for ratio in value.values()]):
        return False
    return has_few_bottoms(value)


def is_spot(group, step, value):
    """Whether the value is a tuple of so many members."""
    return isinstance(value, tuple) and len(value) == step and all([is_member(group, member) for member in value])


def tops_of(row, bottom):
    """The row of the tops over one bottom, which all bottoms divide."""
    return {members: row[members][0] * (bottom // row[members][1]) for members in row}


def ratios_of(tops, bottom):
    """The ratio row of some tops over one bottom."""
    found = {members: ratio_of(tops[members], bottom) for members in sorted(tops)}
    return {members: found[members] for members in found if found[members] != (0, 1)}


def change_of_tops(group, step, tops, firsts):
    """The change of a row of tops at the tuples with some first members."""
    # whole numbers that no member moves are changed alike
    still = Floor.still(group, (0,))
    change = change_behind(still, step, {members: (tops[members],) for members in tops}, firsts)
    return {members: change[members][0] for members in change}


def is_closed_over(group, tops, bottom):
    """Whether the change of a row of tops for 2 is 0 modulo the bottom."""
    change = change_of_tops(group, 2, tops, few_makers(group))
    return not any([entry % bottom for entry in change.values()])


def source_of_tops(group, tops, bottom):
    """A row of tops for 1 whose change is the closed one for 2 modulo the bottom, None if there is none."""
    makers = few_makers(group)
    spots = [(maker, member) for maker in makers for member in range(group.size)]
    place_of = {spot: at for at, spot in enumerate(spots)}
    columns = []
    for member in range(group.size):
        change = change_of_tops(group, 1, {(member,): 1}, makers)
        columns.append({place_of[spot]: change[spot] for spot in change})
    wanted = {place_of[spot]: tops[spot] for spot in tops if spot in place_of}
    shares = Span(columns, bottom).shares(wanted)
    return None if shares is None else {(member,): share for member, share in enumerate(shares)}


def third_list(group):
    """The list of the step 3 of the integers that no member moves.

    It is what is of finite order modulo all changes of clean rows for 2, asked where a maker comes first.
    """
    makers, others = few_makers(group), list(range(1, group.size))
    behind = all_tuples(others, 2)
    place_of = {}
    for maker in makers:
        for members in behind:
            place_of[(maker,) + members] = len(place_of)
    rows = []
    for members in behind:
        change = change_of_tops(group, 2, {members: 1}, makers)
        rows.append({place_of[spot]: change[spot] for spot in change if spot in place_of})
    return torsion_list(rows, group.size)


def turned_tops(tops):
    """A row of tops for 2, less what it has where both members change places."""
    found = {members: tops[members] for members in tops}
    for one, other in tops:
        found[(other, one)] = found.get((other, one), 0) - tops[(one, other)]
    return found


def passing_bottom(group, tops, bottom, member):
    """The least number from 1 on so many times which a closed row has a member pass."""
    products, times = group.all_products, 1
    for other in range(group.size):
        if products[member][other] == products[other][member]:
            difference = tops.get((member, other), 0) - tops.get((other, member), 0)
            times = lcm(times, bottom // gcd(difference, bottom))
    return times
