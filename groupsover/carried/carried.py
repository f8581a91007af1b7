"""Floors carried up from a part to the whole group, floors side by side, and their rows and lists."""

from math import gcd, lcm

from groupsover.base.checks import are_integers
from groupsover.base.floors import MAX_FLOOR_PLACES, Floor, need_few_joined, need_floor, need_like_floors, plain_sum
from groupsover.base.floors import settled_floor
from groupsover.base.groups import leaders_of, need_group, need_part, part_group
from groupsover.errors import InvalidFloor, InvalidOperation, TooMany
from groupsover.rows.plain import seen_entries, tidy_row
from groupsover.rows.rows import MAX_STEP, need_row, need_step, need_tuples
from groupsover.seen.carrying import carried_spots

MOST_LISTED = 200


def need_part_floor(group, part, floor):
    """Refuse what is no group, no part of it, and no floor over the group of the part; the leaders."""
    need_group(group)
    need_part(group, part)
    if not isinstance(floor, Floor) or floor.group != part_group(group, part):
        raise InvalidFloor("this is no floor over the group of the part")
    return leaders_of(group.all_products, part)


def need_few_carried(leaders, floor):
    """Refuse a carried floor with too many places."""
    if len(leaders) * floor.places > MAX_FLOOR_PLACES:
        raise TooMany(MAX_FLOOR_PLACES)


def led_leader(group, leaders, part, member):
    """The member of the part and the index of the leader whose product a member is."""
    products = group.all_products
    found = [(products[member][group.all_inverses[leader]], at) for at, leader in enumerate(leaders)]
    return [(inner, at) for inner, at in found if inner in part][0]


def carried_table(group, part, floor, leaders, member):
    """The table of a member of the whole group on a carried floor."""
    places, found = floor.places, []
    for leader in leaders:
        inner, at = led_leader(group, leaders, part, group.all_products[leader][member])
        ahead, behind = (0,) * (places * at), (0,) * (places * (len(leaders) - at - 1))
        found.extend([ahead + row + behind for row in floor.tables[part.index(inner)]])
    return tuple(found)


def plainly_carried(group, part, floor, leaders):
    """The carried floor, without checks."""
    tables = tuple([carried_table(group, part, floor, leaders, member) for member in range(group.size)])
    return settled_floor(group, floor.rests * len(leaders), tables)


def carried_floor(group, part, floor):
    """The floor over the group with a value of a floor over the part for each leader of a coset."""
    leaders = need_part_floor(group, part, floor)
    need_few_carried(leaders, floor)
    return plainly_carried(group, part, floor, leaders)


def seen_at_one(group, part, floor, step, row):
    """The row on the floor that has what a row on the carried floor has for the first leader."""
    leaders = need_part_floor(group, part, floor)
    need_step(step, 0, MAX_STEP)
    need_few_carried(leaders, floor)
    need_row(plainly_carried(group, part, floor, leaders), step, row)
    need_tuples(group, step)
    seen = seen_entries(part, row)
    return tidy_row({members: seen[members][:floor.places] for members in seen})


def carried_row(group, part, floor, step, row):
    """The row on the carried floor that a row on the floor becomes."""
    leaders = need_part_floor(group, part, floor)
    need_step(step, 0, MAX_STEP)
    need_row(floor, step, row)
    need_few_carried(leaders, floor)
    need_tuples(group, step)
    places, found = floor.places, {}
    for members in row:
        known = tuple([part[index] for index in members])
        for at, leader in enumerate(leaders):
            for spot in carried_spots(group, leaders, leader, known):
                value = found.get(spot, (0,) * (places * len(leaders)))
                found[spot] = value[:places * at] + row[members] + value[places * (at + 1):]
    return tidy_row(found)


def need_spread(floor, part):
    """Refuse what is no floor, no part, and what has too many places; the leaders."""
    need_floor(floor)
    need_part(floor.group, part)
    leaders = leaders_of(floor.group.all_products, part)
    need_few_carried(leaders, floor)
    return leaders


def spread_table(floor, part):
    """The table of the map that takes a value to what each leader makes of it."""
    leaders = need_spread(floor, part)
    return tuple([row for leader in leaders for row in floor.tables[leader]])


def folded_table(floor, part):
    """The table of the map back that sums up what the leaders undone make of their values."""
    tables = [floor.tables[floor.group.all_inverses[leader]] for leader in need_spread(floor, part)]
    return tuple([tuple([entry for table in tables for entry in table[place]]) for place in range(floor.places)])


def is_list(value):
    """Whether the value is a list of integers that divide one another, and zeros."""
    if not isinstance(value, tuple) or len(value) > MOST_LISTED or not are_integers(value, len(value)):
        return False
    if any([size < 0 or size == 1 for size in value]):
        return False
    # 0 is a multiple of all, and divides 0 alone
    return all([further % size == 0 if size else further == 0 for size, further in zip(value, value[1:])])


def need_list(value):
    """Refuse what is no list."""
    if not is_list(value):
        raise InvalidOperation("this is no list")


def joined_list(one, other):
    """The list of what two lists tell side by side."""
    need_list(one)
    need_list(other)
    chain = [size for size in one if size]
    for size in other:
        if size:
            chain = with_size(chain, size)
    return tuple(chain) + (0,) * (one.count(0) + other.count(0))


def with_size(chain, size):
    """The list of the rounds of a list, and of one round more."""
    found = []
    for further in chain:
        # two rounds are as good as one of their divisor and one of their multiple
        divisor = gcd(further, size)
        found.append(divisor)
        size = lcm(further, size)
    return [step for step in found if step > 1] + [size]


def need_joined_call(floor, further, step):
    """Refuse what are no floors over one group, and what is no step."""
    need_like_floors(floor, further)
    need_step(step, 0, MAX_STEP)


def joined_row(floor, further, step, one, other):
    """The row on the sum of two floors with the values of two rows side by side."""
    need_joined_call(floor, further, step)
    need_row(floor, step, one)
    need_row(further, step, other)
    need_few_joined(floor, further)
    need_tuples(floor.group, step)
    ahead, behind = (0,) * floor.places, (0,) * further.places
    return tidy_row({members: one.get(members, ahead) + other.get(members, behind)
                     for members in list(one) + list(other)})


def parted_row(floor, further, step, row):
    """The pair of rows on two floors that a row on their sum joins."""
    need_joined_call(floor, further, step)
    need_few_joined(floor, further)
    need_row(plain_sum(floor, further), step, row)
    need_tuples(floor.group, step)
    places = floor.places
    return (tidy_row({members: row[members][:places] for members in row}),
            tidy_row({members: row[members][places:] for members in row}))
