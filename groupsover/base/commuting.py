"""Commuting groups as sums of rounds, told by the products of their members alone."""

from groupsover.base.groups import closed_members, leaders_of, order_of


def rounds_base(products, members):
    """Few members such that each of some commuting ones is in just one way a product of powers of them.

    Each one has the greatest order among those whose powers do not meet what is made already. So its
    order divides that of the one ahead of it, and no fewer members do.
    """
    base, made = [], (0,)
    powers = {member: closed_members(products, (member,)) for member in members}
    while len(made) < len(members):
        free = [member for member in members if not any([power in made for power in powers[member][1:]])]
        longest = max([len(powers[member]) for member in free])
        base.append([member for member in free if len(powers[member]) == longest][0])
        made = closed_members(products, base)
    return tuple(base)


def exponents_of(products, base):
    """For each product of powers of some members exponents from 0 to one less than the orders."""
    found = {0: ()}
    for maker in base:
        further = {}
        for known in found:
            power = known
            for number in range(order_of(products, maker)):
                further[power] = found[known] + (number,)
                power = products[power][maker]
        found = further
    return found


def is_base(products, members, value):
    """Whether each of some commuting members is in just one way a product of powers of the value's members."""
    many = 1
    for maker in value:
        many = many * order_of(products, maker)
    return many == len(members) and len(exponents_of(products, value)) == many


def is_commuting_group(group):
    """Whether all products of two members are equal in both orders."""
    products = group.all_products
    return all([products[one][other] == products[other][one]
                for one in range(group.size) for other in range(one)])


def made_equal(group):
    """The products of what is left of a group if all products are taken to be equal in both orders."""
    products, inverses = group.all_products, group.all_inverses
    swaps = sorted({products[products[one][other]][products[inverses[one]][inverses[other]]]
                    for one in range(group.size) for other in range(group.size)})
    part = closed_members(products, swaps)
    leaders = leaders_of(products, part)
    index_of = {products[inner][leader]: at for at, leader in enumerate(leaders) for inner in part}
    return [[index_of[products[one][other]] for other in leaders] for one in leaders]


def commuting_sizes(group):
    """The sizes of the rounds of a group in which all products are taken to be equal in both orders, ascending."""
    products = made_equal(group)
    base = rounds_base(products, list(range(len(products))))
    return tuple(reversed([order_of(products, maker) for maker in base]))
