"""Kernels that do not commute, and the groups that are laid with them under a way."""

from groupsover.base.commuting import is_base, rounds_base
from groupsover.base.groups import is_member, need_group, need_member
from groupsover.errors import InvalidOperation, InvalidRow, Refused, TooMany
from groupsover.kernels.ways import Middle, bar_members_of, has_factors, has_way, inner_turn_of, is_pair_of
from groupsover.kernels.ways import least_factors, middle_of, turned_back
from groupsover.laid.leading import self_maps_of
from groupsover.rows.classes import Classes
from groupsover.rows.closed import has_test, need_listed, value_at
from groupsover.rows.plain import cleaned
from groupsover.rows.solving import Changes

MAX_KERNEL = 16
MAX_OVER = 8
MAX_TURNS = 200
MOST_BASE = 4


def need_few_members(kernel):
    """Refuse a kernel with too many members."""
    if kernel.size > MAX_KERNEL:
        raise TooMany(MAX_KERNEL)


def need_few(kernel, group):
    """Refuse a kernel, and then a group above, with too many members."""
    need_few_members(kernel)
    if group.size > MAX_OVER:
        raise TooMany(MAX_OVER)


def need_way(kernel, group, way):
    """Refuse what are no two groups, and what is no way."""
    need_group(kernel)
    need_group(group)
    if not has_way(kernel, group, way):
        raise InvalidOperation("this is no way")


def need_factors(kernel, group, way, factors):
    """Refuse what are no factors of a way."""
    if not has_factors(kernel, group, way, factors):
        raise InvalidRow("these are no factors of the way")


def turns_of(kernel):
    """All turns of the kernel, ascending."""
    need_group(kernel)
    need_few_members(kernel)
    found = self_maps_of(kernel, MAX_TURNS)
    if len(found) > MAX_TURNS:
        raise TooMany(MAX_TURNS)
    return tuple(found)


def inner_turn(kernel, member):
    """The inner turn by a member of the kernel."""
    need_group(kernel)
    need_member(kernel, member)
    need_few_members(kernel)
    return inner_turn_of(kernel, member)


def is_way(kernel, group, value):
    """Whether the value is a way."""
    need_group(kernel)
    need_group(group)
    need_few(kernel, group)
    return has_way(kernel, group, value)


def factors_of(kernel, group, way):
    """Factors of a way."""
    need_way(kernel, group, way)
    need_few(kernel, group)
    return least_factors(kernel, group, way)


def are_factors(kernel, group, way, value):
    """Whether the value is factors of a way."""
    need_way(kernel, group, way)
    need_few(kernel, group)
    return has_factors(kernel, group, way, value)


def fewest_base(kernel):
    """A middle base with the fewest members."""
    return rounds_base(kernel.all_products, middle_of(kernel))


def middle_base(kernel):
    """A middle base."""
    need_group(kernel)
    need_few_members(kernel)
    return fewest_base(kernel)


def has_middle_base(kernel, value):
    """Whether the value is a middle base."""
    if not isinstance(value, tuple) or len(value) > MOST_BASE:
        return False
    middle = middle_of(kernel)
    if not all([is_member(kernel, maker) and maker != 0 and maker in middle for maker in value]):
        return False
    return is_base(kernel.all_products, middle, value)


def is_middle_base(kernel, value):
    """Whether the value is a middle base."""
    need_group(kernel)
    need_few_members(kernel)
    return has_middle_base(kernel, value)


def told_middle(kernel, group, way, base):
    """The middle by a base, behind all other checks."""
    if not has_middle_base(kernel, base):
        raise InvalidOperation("this is no base of the middle")
    need_few(kernel, group)
    if not base:
        raise Refused(("middle",))
    return Middle(kernel, group, way, base)


def middle_floor(kernel, group, way, base):
    """The floor of the middle over the group."""
    need_way(kernel, group, way)
    return told_middle(kernel, group, way, base).ground


def bar_row(kernel, group, way, factors, base):
    """The closed 3-row of the members by which products of three pairs hang on brackets."""
    need_way(kernel, group, way)
    need_factors(kernel, group, way, factors)
    return told_middle(kernel, group, way, base).row_of(bar_members_of(kernel, group, way, factors))


def freed_factors(kernel, group, way):
    """Factors with which pairs are a group, None if there are none."""
    factors, base = least_factors(kernel, group, way), fewest_base(kernel)
    bars = bar_members_of(kernel, group, way, factors)
    if not bars:
        return factors
    middle = Middle(kernel, group, way, base)
    source = Changes(middle.ground, 3).source(middle.row_of(bars))
    if source is None:
        return None
    # the change of the source is 0 at tuples with 0, and so the source is cleaned as a closed row is
    clean, _ = cleaned(middle.ground, 2, source)
    products, inverses = kernel.all_products, kernel.all_inverses
    return {pair: products[inverses[middle.member_at[clean[pair]]]][factors[pair]] if pair in clean
            else factors[pair] for pair in factors}


def laid_factors(kernel, group, way):
    """Factors with which pairs are a group, None if there are none."""
    need_way(kernel, group, way)
    need_few(kernel, group)
    return freed_factors(kernel, group, way)


def way_test(kernel, group, way):
    """Factors, a base, and a test that is not (0, 1) at their bar row, None if the kernel can be laid."""
    need_way(kernel, group, way)
    need_few(kernel, group)
    factors, base = least_factors(kernel, group, way), fewest_base(kernel)
    bars = bar_members_of(kernel, group, way, factors)
    if not bars:
        return None
    middle = Middle(kernel, group, way, base)
    test = Changes(middle.ground, 3).test(middle.row_of(bars))
    return None if test is None else (factors, base, test)


def is_way_test(kernel, group, way, value):
    """Whether the value is factors, a base, and a test that is not (0, 1) at their bar row."""
    need_way(kernel, group, way)
    need_few(kernel, group)
    if not isinstance(value, tuple) or len(value) != 3:
        return False
    factors, base, test = value
    if not has_factors(kernel, group, way, factors) or not has_middle_base(kernel, base) or not base:
        return False
    middle = Middle(kernel, group, way, base)
    row = middle.row_of(bar_members_of(kernel, group, way, factors))
    return has_test(middle.ground, 3, test) and value_at(test, row) != (0, 1)


class Laid:
    """The group of pairs of a member of a kernel and a member of the group above it, laid with factors."""

    def __init__(self, kernel, group, way, factors):
        need_way(kernel, group, way)
        need_factors(kernel, group, way, factors)
        need_few(kernel, group)
        if bar_members_of(kernel, group, way, factors):
            raise Refused(("bar",))
        self._kernel = kernel
        self._group = group
        self._way = way
        self._factors = {pair: factors[pair] for pair in factors}

    @property
    def kernel_below(self):
        """The kernel."""
        return self._kernel

    @property
    def group_above(self):
        """The group above the kernel."""
        return self._group

    @property
    def told_way(self):
        """The way."""
        return self._way

    @property
    def laid_size(self):
        """How many pairs there are."""
        return self._kernel.size * self._group.size

    def need_pair(self, value):
        """Refuse what is no pair of members."""
        if not is_pair_of(self._kernel, self._group, value):
            raise InvalidRow("this is no pair of a member of the kernel and one of the group")

    def plainly_multiplied(self, one, other):
        """The product of two pairs, without checks."""
        products = self._kernel.all_products
        ahead = products[one[0]][self._way[one[1]][other[0]]]
        return products[ahead][self._factors[(one[1], other[1])]], self._group.all_products[one[1]][other[1]]

    def multiplied(self, one, other):
        """The product of two pairs."""
        self.need_pair(one)
        self.need_pair(other)
        return self.plainly_multiplied(one, other)

    def reversed_pair(self, one):
        """The pair that undoes a pair."""
        self.need_pair(one)
        products, inverses = self._kernel.all_products, self._kernel.all_inverses
        back = self._group.all_inverses[one[1]]
        goal = products[inverses[one[0]]][inverses[self._factors[(one[1], back)]]]
        return turned_back(self._way[one[1]])[goal], back

    def repeats(self, one):
        """The least power of a pair from 1 on that is (0, 0)."""
        self.need_pair(one)
        power, times = one, 1
        while power != (0, 0):
            power = self.plainly_multiplied(power, one)
            times += 1
        return times


def layings_number(kernel, group, way):
    """How many groups of pairs there are for one way, but for alike ones."""
    need_way(kernel, group, way)
    need_few(kernel, group)
    base = fewest_base(kernel)
    if not base:
        return 1
    ground = Middle(kernel, group, way, base).ground
    need_listed(ground, 2)
    if freed_factors(kernel, group, way) is None:
        return 0
    many = 1
    for size in Classes(ground, 2).sizes:
        many = many * size
    return many
