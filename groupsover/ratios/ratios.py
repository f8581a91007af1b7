"""Rows of ratios for 2: the sources, classes and turned rows of closed ones, and the members that pass them."""

from math import lcm

from groupsover.base.checks import is_within
from groupsover.base.commuting import commuting_sizes, exponents_of, is_commuting_group, rounds_base
from groupsover.base.groups import moved_members, need_group
from groupsover.errors import InvalidNumber, InvalidOperation, InvalidRow, InvalidTable, Refused, TooMany
from groupsover.ratios.fractions import bottom_of, change_of_tops, has_ratio_row, is_change_over, is_closed_over
from groupsover.ratios.fractions import loops_list, passing_bottom, ratios_of, source_of_tops, tops_of, turned_tops
from groupsover.rows.closed import MAX_BOTTOM
from groupsover.rows.rows import need_step

MAX_RATIO_GROUP = 8
MAX_LAID_MEMBERS = 96


def need_ratio_row(group, step, row):
    """Refuse what is no group, and what is no ratio row for the step."""
    need_group(group)
    if not has_ratio_row(group, step, row):
        raise InvalidRow("this is no ratio row for the step")


def need_closed_tops(group, row):
    """Refuse a ratio row for 2 that is not closed."""
    bottom = bottom_of(row)
    if not is_closed_over(group, tops_of(row, bottom), bottom):
        raise Refused(("open",))


def need_commuting(group):
    """Refuse a group that is not commuting."""
    if not is_commuting_group(group):
        raise InvalidOperation("the group is not commuting")


def is_ratio_row(group, step, value):
    """Whether the value is a ratio row for the step."""
    need_group(group)
    need_step(step, 1, 2)
    return has_ratio_row(group, step, value)


def ratio_change(group, step, row):
    """The change of a ratio row."""
    need_group(group)
    need_step(step, 1, 2)
    need_ratio_row(group, step, row)
    bottom = bottom_of(row)
    return ratios_of(change_of_tops(group, step, tops_of(row, bottom)), bottom)


def need_source_call(group, row):
    """Refuse what is no closed ratio row for 2, and one with too great a bottom; the bottom of its sources."""
    need_ratio_row(group, 2, row)
    need_closed_tops(group, row)
    bottom = group.size * bottom_of(row)
    if bottom > MAX_BOTTOM:
        raise TooMany(MAX_BOTTOM)
    return bottom


def ratio_source(group, row):
    """A ratio row for 1 whose change is the closed row, None if there is none."""
    bottom = need_source_call(group, row)
    source = source_of_tops(group, tops_of(row, bottom), bottom)
    return None if source is None else ratios_of(source, bottom)


def is_ratio_source(group, row, value):
    """Whether the value is a ratio row for 1 whose change is the closed row."""
    need_source_call(group, row)
    if not has_ratio_row(group, 1, value):
        return False
    bottom = lcm(bottom_of(row), bottom_of(value))
    return is_change_over(group, tops_of(value, bottom), tops_of(row, bottom), bottom)


def ratio_list(group):
    """The list of the classes of closed ratio rows for 2."""
    need_group(group)
    if is_commuting_group(group):
        sizes = commuting_sizes(group)
        return tuple([size for at, size in enumerate(sizes) for _ in sizes[at + 1:]])
    if group.size > MAX_RATIO_GROUP:
        raise TooMany(MAX_RATIO_GROUP)
    return loops_list(group)


def turned_ratios(group, row):
    """The turned row of a closed row of a commuting group."""
    need_ratio_row(group, 2, row)
    need_commuting(group)
    need_closed_tops(group, row)
    bottom = bottom_of(row)
    return ratios_of(turned_tops(tops_of(row, bottom)), bottom)


def has_turning(group, value):
    """Whether the value is a turning."""
    if not has_ratio_row(group, 2, value):
        return False
    bottom, products = bottom_of(value), group.all_products
    tops, members = tops_of(value, bottom), list(range(group.size))
    table = [[tops.get((one, other), 0) for other in members] for one in members]
    if any([table[member][member] for member in members]):
        return False
    return all([(table[products[one][other]][k] - table[one][k] - table[other][k]) % bottom == 0
                and (table[k][products[one][other]] - table[k][one] - table[k][other]) % bottom == 0
                for one in members for other in members for k in members])


def is_turning(group, value):
    """Whether the value is a turning of a commuting group."""
    need_group(group)
    need_commuting(group)
    return has_turning(group, value)


def turning_row(group, turning):
    """A closed row whose turned row is the turning."""
    need_group(group)
    if not has_turning(group, turning):
        raise InvalidTable("this is no turning")
    need_commuting(group)
    products, members = group.all_products, list(range(group.size))
    base = rounds_base(products, members)
    exponents, many = exponents_of(products, base), len(base)
    bottom = bottom_of(turning)
    tops = tops_of(turning, bottom)
    # one half of the turning, by exponents, goes along with products, and so is closed
    pairs = [(i, j, tops.get((base[i], base[j]), 0)) for i in range(many) for j in range(i + 1, many)]
    return ratios_of({(one, other): sum([exponents[one][i] * exponents[other][j] * top for i, j, top in pairs])
                      for one in members for other in members}, bottom)


def classes_of(group):
    """The lots of members that lead to one another, ascending."""
    members = tuple(range(group.size))
    lots = [tuple(sorted({moved_members(group, (inner,), member)[0] for member in members})) for inner in members]
    return sorted({lot for lot in lots})


def member_classes(group):
    """The ascending tuple of the lots of members that lead to one another."""
    need_group(group)
    return tuple(classes_of(group))


def passing_classes(group, row):
    """The lots of members that pass the closed row."""
    need_ratio_row(group, 2, row)
    need_closed_tops(group, row)
    bottom = bottom_of(row)
    tops = tops_of(row, bottom)
    return tuple([lot for lot in classes_of(group) if passing_bottom(group, tops, bottom, lot[0]) == 1])


def laid_number(group, row, number):
    """How many lots of pairs that lead to one another there are in the group laid with so many times the row."""
    need_ratio_row(group, 2, row)
    if not is_within(number, 1, MAX_LAID_MEMBERS):
        raise InvalidNumber(number)
    if any([number % row[members][1] for members in row]):
        raise InvalidOperation("a bottom does not divide the number")
    if number * group.size > MAX_LAID_MEMBERS:
        raise TooMany(MAX_LAID_MEMBERS)
    need_closed_tops(group, row)
    tops = tops_of(row, number)
    # a lot passes so many times the row as are multiples of the least number of times that it passes
    return sum([number // passing_bottom(group, tops, number, lot[0]) for lot in classes_of(group)])
