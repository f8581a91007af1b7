"""What comes again: groups for which the lists of all floors come again, and the lists of the integers."""

from math import gcd, lcm

from groupsover.base.checks import is_integer
from groupsover.base.commuting import commuting_sizes
from groupsover.base.groups import PRIMES, centralizer_of, closed_members, is_member, need_group, normalizer_of
from groupsover.base.groups import order_of, power_of, prime_part
from groupsover.base.same_maps import primes_of
from groupsover.base.tables import chain_of
from groupsover.errors import InvalidNumber, Refused


def are_bar(products, one, other):
    """Whether two members are of one prime order and commute, and the other one is no power of the first one."""
    order = order_of(products, one)
    if order not in PRIMES or order_of(products, other) != order:
        return False
    return products[one][other] == products[other][one] and other not in closed_members(products, (one,))


def bar_members(group):
    """A bar of the group, None if there is none."""
    need_group(group)
    for one in range(group.size):
        for other in range(one + 1, group.size):
            if are_bar(group.all_products, one, other):
                return one, other
    return None


def is_bar(group, value):
    """Whether the value is a bar of the group."""
    need_group(group)
    if not isinstance(value, tuple) or len(value) != 2 or not all([is_member(group, member) for member in value]):
        return False
    return are_bar(group.all_products, value[0], value[1])


def greatest_power(group, prime):
    """The greatest power of a prime that divides the size of the group."""
    power = prime
    while group.size // power % prime == 0:
        power = power * prime
    return power


def is_eight(group, one, other):
    """Whether two members can stand in an entry that says so."""
    products, inverses = group.all_products, group.all_inverses
    order = order_of(products, one)
    if order < 4 or 2 * order != greatest_power(group, 2) or other in closed_members(products, (one,)):
        return False
    return (products[other][other] == power_of(products, one, order // 2)
            and products[other][one] == products[inverses[one]][other])


def entry_for(group, prime):
    """An entry of an again paper for a prime, None if there is none."""
    power = greatest_power(group, prime)
    for member in range(group.size):
        if order_of(group.all_products, member) == power:
            return prime, "round", member
    if prime == 2:
        for one in range(group.size):
            for other in range(group.size):
                if is_eight(group, one, other):
                    return prime, "eight", one, other
    return None


def is_entry(group, prime, value):
    """Whether the value is an entry of an again paper for a prime."""
    if not isinstance(value, tuple) or len(value) not in (3, 4) or not is_integer(value[0]) or value[0] != prime:
        return False
    if not all([is_member(group, member) for member in value[2:]]):
        return False
    if len(value) == 3:
        return value[1] == "round" and order_of(group.all_products, value[2]) == greatest_power(group, prime)
    return prime == 2 and value[1] == "eight" and is_eight(group, value[2], value[3])


def plain_paper(group):
    """An again paper of the group, None if there is none."""
    entries = [entry_for(group, prime) for prime in primes_of(group.size)]
    return None if None in entries else tuple(entries)


def again_paper(group):
    """An again paper of the group, None if there is none."""
    need_group(group)
    return plain_paper(group)


def is_again_paper(group, value):
    """Whether the value is an again paper of the group."""
    need_group(group)
    primes = primes_of(group.size)
    if not isinstance(value, tuple) or len(value) != len(primes):
        return False
    return all([is_entry(group, prime, entry) for prime, entry in zip(primes, value)])


def turns_of_part(group, prime):
    """In how many ways members move the members of a prime part that they move to itself."""
    part = prime_part(group, prime)
    return len(normalizer_of(group, part)) // len(centralizer_of(group, part))


def prime_turns(group, prime):
    """In how many ways members move the members of a prime part that they move to itself."""
    need_group(group)
    if not is_integer(prime) or prime not in primes_of(group.size):
        raise InvalidNumber(prime)
    return turns_of_part(group, prime)


def need_paper(group):
    """Refuse a group with a bar; an again paper of any other one."""
    paper = plain_paper(group)
    if paper is None:
        raise Refused(("bar",))
    return paper


def again_step(group):
    """The least step from 2 on by which the lists of all floors come again."""
    need_group(group)
    step = 2
    for entry in need_paper(group):
        if entry[0] > 2:
            step = lcm(step, 2 * turns_of_part(group, entry[0]))
        elif entry[1] == "eight":
            step = lcm(step, 4)
    return step


def sizes_for(group, entry, half):
    """The sizes that an entry of an again paper gives to the list of twice a step."""
    prime, power = entry[0], greatest_power(group, entry[0])
    if entry[1] == "eight" and half % 2:
        return [gcd(size, power) for size in commuting_sizes(group)]
    # the members of a round of a power of 2 are moved in one way alone
    turns = turns_of_part(group, prime) if prime > 2 else 1
    return [] if half % turns else [power]


def list_again(group, number):
    """The list of the step of so large a number, for integers that no member moves."""
    need_group(group)
    if not is_integer(number) or number < 1:
        raise InvalidNumber(number)
    paper = need_paper(group)
    if number % 2:
        return ()
    return chain_of([size for entry in paper for size in sizes_for(group, entry, number // 2)])


def made_commuting(group):
    """The list of the group, if all products are taken to be equal in both orders."""
    need_group(group)
    return commuting_sizes(group)
