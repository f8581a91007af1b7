"""Turns of a kernel, ways and their factors, and what hangs on them, without checks."""

from groupsover.base.commuting import exponents_of
from groupsover.base.floors import settled_floor
from groupsover.base.groups import is_member, order_of
from groupsover.laid.leading import has_self_map, joined_map_of


def inner_turn_of(kernel, member):
    """The inner turn by a member."""
    products, back = kernel.all_products, kernel.all_inverses[member]
    return tuple([products[products[member][inner]][back] for inner in range(kernel.size)])


def inner_members(kernel):
    """For each inner turn the least member by which it is."""
    found = {}
    for member in range(kernel.size):
        found.setdefault(inner_turn_of(kernel, member), member)
    return found


def middle_of(kernel):
    """The members that commute with each member."""
    still = tuple(range(kernel.size))
    return tuple([member for member in still if inner_turn_of(kernel, member) == still])


def turned_back(turn):
    """The turn that undoes a turn."""
    found = [0] * len(turn)
    for member, image in enumerate(turn):
        found[image] = member
    return tuple(found)


def twists_of(group, way):
    """For each pair of members what the turns of both are, behind that of their product undone."""
    back = [turned_back(turn) for turn in way]
    return {(g, h): joined_map_of(joined_map_of(way[g], way[h]), back[group.all_products[g][h]])
            for g in range(group.size) for h in range(group.size)}


def has_way(kernel, group, value):
    """Whether the value is a way."""
    if not isinstance(value, tuple) or len(value) != group.size:
        return False
    if not all([has_self_map(kernel, turn) for turn in value]) or value[0] != tuple(range(kernel.size)):
        return False
    inner, twists = inner_members(kernel), twists_of(group, value)
    return all([twists[pair] in inner for pair in twists])


def least_factors(kernel, group, way):
    """The least factors of a way."""
    inner, twists = inner_members(kernel), twists_of(group, way)
    return {pair: inner[twists[pair]] for pair in twists}


def is_pair_of(one, other, value):
    """Whether the value is a pair of a member of one group and a member of another one."""
    return isinstance(value, tuple) and len(value) == 2 and is_member(one, value[0]) and is_member(other, value[1])


def has_factors(kernel, group, way, value):
    """Whether the value is factors of a way."""
    if not isinstance(value, dict) or len(value) != group.size * group.size:
        return False
    if not all([is_pair_of(group, group, pair) and is_member(kernel, value[pair]) for pair in value]):
        return False
    twists = twists_of(group, way)
    inner = [inner_turn_of(kernel, member) for member in range(kernel.size)]
    return all([inner[value[pair]] == twists[pair] and (0 not in pair or value[pair] == 0) for pair in twists])


def bar_members_of(kernel, group, way, factors):
    """The members other than 0 by which products of three pairs hang on brackets."""
    products, inverses, found = kernel.all_products, kernel.all_inverses, {}
    others = list(range(1, group.size))
    for g in others:
        for h in others:
            for k in others:
                ahead = products[way[g][factors[(h, k)]]][factors[(g, group.all_products[h][k])]]
                back = products[factors[(g, h)]][factors[(group.all_products[g][h], k)]]
                member = products[ahead][inverses[back]]
                if member:
                    found[(g, h, k)] = member
    return found


class Middle:
    """The middle of a kernel by a base: its members as values, and the floor of these over the group."""

    def __init__(self, kernel, group, way, base):
        products = kernel.all_products
        self.value_of = exponents_of(products, base)
        self.member_at = {self.value_of[member]: member for member in self.value_of}
        rests = tuple([order_of(products, maker) for maker in base])
        columns = [[self.value_of[turn[maker]] for maker in base] for turn in way]
        self.ground = settled_floor(group, rests, tuple([tuple(list(zip(*column))) for column in columns]))

    def row_of(self, known):
        """The row of some members of the middle."""
        return {members: self.value_of[known[members]] for members in known}
