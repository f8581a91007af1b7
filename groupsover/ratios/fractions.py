"""Ratio rows as integers over one bottom, without checks.

A row of tops is a dict from tuples of members to integers, which are reckoned modulo the bottom.
"""

from math import gcd, lcm

from groupsover.base.checks import is_ratio
from groupsover.base.echelon import Span
from groupsover.base.groups import few_makers, is_member
from groupsover.base.sparse import torsion_list
from groupsover.base.tables import ratio_of
from groupsover.rows.closed import MAX_BOTTOM
from groupsover.rules.loops import Loops


def bottom_of(row):
    """The least common multiple of all bottoms."""
    multiple = 1
    for members in row:
        multiple = lcm(multiple, row[members][1])
    return multiple


def has_few_bottoms(row):
    """Whether the least common multiple of all bottoms is not too great."""
    multiple = 1
    for members in row:
        bottom = row[members][1]
        multiple = bottom if bottom > MAX_BOTTOM else lcm(multiple, bottom)
        if multiple > MAX_BOTTOM:
            return False
    return True


def has_ratio_row(group, step, value):
    """Whether the value is a ratio row for the step."""
    if not isinstance(value, dict) or not all([is_spot(group, step, members) for members in value]):
        return False
    if not all([is_ratio(ratio) and ratio[0] > 0 for ratio in value.values()]):
        return False
    return has_few_bottoms(value)


def is_spot(group, step, value):
    """Whether the value is a tuple of so many members."""
    return isinstance(value, tuple) and len(value) == step and all([is_member(group, member) for member in value])


def tops_of(row, bottom):
    """The row of the tops over one bottom, which all bottoms divide."""
    return {members: row[members][0] * (bottom // row[members][1]) for members in row}


def ratios_of(tops, bottom):
    """The ratio row of some tops over one bottom."""
    return {members: ratio_of(tops[members], bottom) for members in sorted(tops) if tops[members] % bottom}


def table_of_tops(group, tops):
    """The tops of a row for 2, a row for each first member."""
    return [[tops.get((one, other), 0) for other in range(group.size)] for one in range(group.size)]


def change_of_ones(group, tops, firsts):
    """The change of a row of tops for 1 at the pairs with some first members."""
    products, line = group.all_products, [tops.get((member,), 0) for member in range(group.size)]
    return {(one, other): line[other] - line[products[one][other]] + line[one]
            for one in firsts for other in range(group.size)}


def change_of_twos(group, tops):
    """The change of a row of tops for 2."""
    products, table, members = group.all_products, table_of_tops(group, tops), list(range(group.size))
    return {(one, other, third): (table[other][third] - table[products[one][other]][third]
                                  + table[one][products[other][third]] - table[one][other])
            for one in members for other in members for third in members}


def change_of_tops(group, step, tops):
    """The change of a row of tops for 1 or 2."""
    if step == 1:
        return change_of_ones(group, tops, list(range(group.size)))
    return change_of_twos(group, tops)


def is_closed_over(group, tops, bottom):
    """Whether the change of a row of tops for 2 is 0 modulo the bottom; it is if it is where a maker comes first."""
    products, table = group.all_products, table_of_tops(group, tops)
    for maker in few_makers(group):
        known = table[maker]
        for other, line in enumerate(table):
            joined, less = table[products[maker][other]], known[other]
            if any([(line[third] - joined[third] + known[product] - less) % bottom
                    for third, product in enumerate(products[other])]):
                return False
    return True


def is_change_over(group, lower, tops, bottom):
    """Whether the change of a row of tops for 1 is a row of tops for 2, modulo the bottom."""
    change = change_of_ones(group, lower, list(range(group.size)))
    return not any([(change[pair] - tops.get(pair, 0)) % bottom for pair in change])


def source_of_tops(group, tops, bottom):
    """A row of tops for 1 whose change is the closed one for 2 modulo the bottom, None if there is none."""
    makers = few_makers(group)
    spots = [(maker, member) for maker in makers for member in range(group.size)]
    place_of = {spot: at for at, spot in enumerate(spots)}
    columns = []
    for member in range(group.size):
        change = change_of_ones(group, {(member,): 1}, makers)
        columns.append({place_of[spot]: change[spot] for spot in change if change[spot]})
    wanted = {place_of[spot]: tops[spot] for spot in tops if spot in place_of}
    shares = Span(columns, bottom).shares(wanted)
    return None if shares is None else {(member,): share for member, share in enumerate(shares)}


def loops_list(group):
    """The list of the classes of closed rows for 2.

    They are told by the ratios that loops of few makers lead to, equal ones for moved loops, but for those
    that come of ratios for the makers. So there are as many as loops of finite order modulo moved ones less
    themselves, and they are added alike.
    """
    return torsion_list(Loops(group, few_makers(group), []).moved_less(), group.size)


def turned_tops(tops):
    """A row of tops for 2, less what it has where both members change places."""
    found = {members: tops[members] for members in tops}
    for one, other in tops:
        found[(other, one)] = found.get((other, one), 0) - tops[(one, other)]
    return found


def passing_bottom(group, tops, bottom, member):
    """The least number from 1 on so many times which a closed row has a member pass."""
    products, times = group.all_products, 1
    for other in range(group.size):
        if products[member][other] == products[other][member]:
            difference = tops.get((member, other), 0) - tops.get((other, member), 0)
            times = lcm(times, bottom // gcd(difference, bottom))
    return times
