"""Rows seen from a part of the group, carried back from it, and moved to another part."""

from groupsover.base.floors import need_floor, seen_floor
from groupsover.base.groups import is_member, leaders_of, moved_members, need_part, need_prime
from groupsover.base.same_maps import primes_of
from groupsover.errors import InvalidNumber, InvalidOperation, Refused
from groupsover.rows.classes import small_like
from groupsover.rows.plain import are_short_values, cleaned, seen_entries, sum_of_rows, times_of_row
from groupsover.rows.rows import MAX_STEP, need_asked, need_call, need_closed, need_row, need_step, short_row
from groupsover.rows.solving import Changes
from groupsover.seen.carrying import carried_entries, moved_entries


def need_part_of(floor, part):
    """Refuse what is no floor, and what is no part of its group."""
    need_floor(floor)
    need_part(floor.group, part)


def need_seen_call(floor, part, step, least, row):
    """Refuse what is no step and no row on the seen floor, which is returned."""
    need_step(step, least, MAX_STEP)
    seen = seen_floor(floor, part)
    need_row(seen, step, row)
    need_asked(floor, step)
    return seen


def seen_row(floor, part, step, row):
    """The row that is seen from a part."""
    need_part_of(floor, part)
    need_step(step, 0, MAX_STEP)
    need_row(floor, step, row)
    need_asked(floor, step)
    return seen_entries(part, row)


def carried_back(floor, part, step, row):
    """The row that a row on the seen floor becomes, summed up over the leaders of the cosets."""
    need_part_of(floor, part)
    need_seen_call(floor, part, step, 0, row)
    return short_row(carried_entries(floor, part, row))


def moved_row(floor, part, member, step, row):
    """The row seen from the moved part that a member makes of a row on the seen floor."""
    need_part_of(floor, part)
    if not is_member(floor.group, member):
        raise InvalidNumber(member)
    need_seen_call(floor, part, step, 0, row)
    return short_row(moved_entries(floor, part, member, row))


def is_agreeing_at(floor, part, member, step, row):
    """Whether a closed row agrees at a member."""
    moved = moved_members(floor.group, part, member)
    meet = tuple([inner for inner in part if inner in moved])
    # a closed row seen from (0,) is a change
    if meet == (0,):
        return True
    one = seen_entries(tuple([part.index(inner) for inner in meet]), row)
    other = seen_entries(tuple([moved.index(inner) for inner in meet]), moved_entries(floor, part, member, row))
    difference = sum_of_rows(floor.rests, one, -1, other)
    return not difference or Changes(seen_floor(floor, meet), step).order(difference) == 1


def first_unlike(floor, part, step, row):
    """The least member at which a closed row does not agree, None if there is none."""
    products = floor.group.all_products
    asked = {member: True for member in part}
    for member in range(floor.group.size):
        if member not in asked:
            if not is_agreeing_at(floor, part, member, step, row):
                return member
            # a row is moved within its class by members of the part, on both sides of a member
            asked.update({products[products[one][member]][other]: True for one in part for other in part})
    return None


def is_agreeing(floor, part, step, row):
    """Whether a closed row on the seen floor agrees at all members."""
    need_part_of(floor, part)
    need_closed(need_seen_call(floor, part, step, 1, row), step, row)
    return first_unlike(floor, part, step, row) is None


def spread_row(floor, part, step, row):
    """A closed row that is of the class of a closed row, seen from a part whose index has no divisor with it."""
    need_part_of(floor, part)
    seen = need_seen_call(floor, part, step, 1, row)
    many = len(leaders_of(floor.group.all_products, part))
    times = [number for number in range(1, len(part) + 1) if number * many % len(part) == 1 % len(part)]
    if not times:
        raise InvalidOperation("the size of the part and its index have a common divisor")
    need_closed(seen, step, row)
    unlike = first_unlike(floor, part, step, row)
    if unlike is not None:
        raise Refused(("moved", unlike))
    found = times_of_row(floor.rests, times[0], carried_entries(floor, part, row))
    if not are_short_values(found):
        # any row of the class is as good
        found = small_like(floor, step, cleaned(floor, step, found)[0])
    return short_row(found)


def share_times(group, prime):
    """How many times a row its share at a prime is."""
    power = 1
    while group.size // power % prime == 0:
        power = power * prime
    if power == 1:
        return 0
    return [times for times in range(0, group.size, group.size // power) if times % power == 1][0]


def prime_share(floor, prime, step, row):
    """The share of a closed row at a prime."""
    need_floor(floor)
    need_prime(prime)
    need_call(floor, step, 1, MAX_STEP, row)
    need_asked(floor, step)
    need_closed(floor, step, row)
    return short_row(times_of_row(floor.rests, share_times(floor.group, prime), row))


def class_primes(floor, step, row):
    """The ascending tuple of the primes at which the share of a closed row is no change."""
    need_call(floor, step, 1, MAX_STEP, row)
    need_asked(floor, step)
    need_closed(floor, step, row)
    # the share at a prime is no change exactly if the prime divides the order of the class
    return tuple(primes_of(Changes(floor, step).order(row)))
