"""Groups of renamings, their members and their parts."""

from groupsover.base.checks import is_integer, is_within
from groupsover.errors import InvalidGroup, InvalidNumber, TooMany

MAX_SIZE = 32
MAX_PLACES = 32
MOST_MOVES = 4
MOST_PARTED = 24
PRIMES = (2, 3, 5, 7, 11, 13, 17, 19, 23, 29, 31)


class Group:
    """All products of some renamings; a member is told by the index of its renaming."""

    def __init__(self, moves):
        if not are_moves(moves):
            raise InvalidGroup("a group takes one to four renamings of one number of places")
        self._settle(all_renamings(moves))

    def _settle(self, moves):
        """Take renamings that have all their products, ascending."""
        index_of = {move: index for index, move in enumerate(moves)}
        self._moves = moves
        self._members = tuple(range(len(moves)))
        self._products = tuple([tuple([index_of[joined(one, other)] for other in moves]) for one in moves])
        self._inverses = tuple([row.index(0) for row in self._products])

    @property
    def size(self):
        """How many members there are."""
        return len(self._moves)

    @property
    def moves(self):
        """The ascending tuple of all renamings."""
        return self._moves

    @property
    def all_products(self):
        """A row for each member, with its products with all members."""
        return self._products

    @property
    def all_inverses(self):
        """The inverse of each member."""
        return self._inverses

    def product(self, one, other):
        """The member that moves as the other one does, and then as the first one."""
        need_member(self, one)
        need_member(self, other)
        return self._products[one][other]

    def inverse(self, member):
        """The member that undoes a member."""
        need_member(self, member)
        return self._inverses[member]

    def power(self, member, number):
        """The product of so many times the member; of its inverse for numbers below 0."""
        need_member(self, member)
        if not is_integer(number):
            raise InvalidNumber(number)
        return power_of(self._products, member, number % order_of(self._products, member))

    def order(self, member):
        """The least power from 1 on that is 0."""
        need_member(self, member)
        return order_of(self._products, member)

    @classmethod
    def round(cls, size):
        """The group of the renaming that leads each place to the next one."""
        if not is_within(size, 1, MAX_SIZE):
            raise InvalidNumber(size)
        return cls((tuple([(place + 1) % size for place in range(size)]),))

    @classmethod
    def both(cls, one, other):
        """The group of all pairs of members of two groups."""
        need_group(one)
        need_group(other)
        places = len(one.moves[0])
        if one.size * other.size > MAX_SIZE or places + len(other.moves[0]) > MAX_PLACES:
            raise TooMany(MAX_SIZE)
        # four renamings may be too few to make it, so it is settled with all of them
        made = cls(((0,),))
        made._settle(tuple([first + tuple([places + place for place in second])
                            for first in one.moves for second in other.moves]))
        return made

    def __eq__(self, other):
        return isinstance(other, Group) and self._moves == other._moves

    def __len__(self):
        return len(self._moves)

    def __iter__(self):
        return iter(self._members)

    def __str__(self):
        return f"group of {len(self._moves)} members on {len(self._moves[0])} places"


def are_moves(value):
    """Whether the value can make a group."""
    if not isinstance(value, tuple) or not 1 <= len(value) <= MOST_MOVES:
        return False
    return all([is_renaming(move) for move in value]) and all([len(move) == len(value[0]) for move in value])


def is_renaming(value):
    """Whether the value has each place once."""
    if not isinstance(value, tuple) or not 1 <= len(value) <= MAX_PLACES:
        return False
    return all([is_within(place, 0, len(value) - 1) for place in value]) and len(set(value)) == len(value)


def joined(one, other):
    """The renaming that does the other one, and then the first one."""
    return tuple([one[place] for place in other])


def all_renamings(moves):
    """The ascending tuple of all products of renamings."""
    start = tuple(range(len(moves[0])))
    found = {start: True}
    waiting = [start]
    while waiting:
        known = waiting.pop()
        for move in moves:
            further = joined(known, move)
            if further not in found:
                found[further] = True
                waiting.append(further)
        if len(found) > MAX_SIZE:
            raise TooMany(MAX_SIZE)
    return tuple(sorted(found))


def power_of(products, member, number):
    """The product of so many times the member."""
    power = 0
    for _ in range(number):
        power = products[power][member]
    return power


def order_of(products, member):
    """The least power from 1 on that is 0."""
    order = 1
    power = member
    while power != 0:
        power = products[power][member]
        order += 1
    return order


def closed_members(products, makers):
    """The ascending tuple of all products of some members."""
    found = {0: True}
    waiting = [0]
    while waiting:
        known = waiting.pop()
        for maker in makers:
            further = products[known][maker]
            if further not in found:
                found[further] = True
                waiting.append(further)
    return tuple(sorted(found))


def is_member(group, value):
    """Whether the value is a member of the group."""
    return is_within(value, 0, group.size - 1)


def need_group(group):
    """Refuse what is no group."""
    if not isinstance(group, Group):
        raise InvalidGroup("this is no group")


def need_member(group, value):
    """Refuse what is no member of the group."""
    if not is_member(group, value):
        raise InvalidNumber(value)


def need_part(group, part):
    """Refuse what is no group, and what is no part of it."""
    if not is_group_part(group, part):
        raise InvalidGroup("this is no part of the group")


def is_group_part(group, value):
    """Whether the value is a part of the group."""
    need_group(group)
    if not isinstance(value, tuple) or not all([is_member(group, member) for member in value]):
        return False
    return 0 in value and value == closed_members(group.all_products, value)


def made_part(group, members):
    """The least part that has some members."""
    need_group(group)
    if not isinstance(members, tuple) or len(members) > MAX_SIZE:
        raise InvalidGroup("a part is made by a tuple of at most 32 members")
    if not all([is_member(group, member) for member in members]):
        raise InvalidGroup("a part is made by members of the group")
    return closed_members(group.all_products, members)


def group_parts(group):
    """All parts, by their sizes, and of one size ascending."""
    need_group(group)
    if group.size > MOST_PARTED:
        raise TooMany(MOST_PARTED)
    rounds = generated_rounds(group)
    found = {(0,): True}
    waiting = [(0,)]
    while waiting:
        part = waiting.pop()
        for turn in rounds:
            further = closed_members(group.all_products, part + turn)
            if further not in found:
                found[further] = True
                waiting.append(further)
    return tuple(sorted(found, key=lambda part: (len(part), part)))


def generated_rounds(group):
    """The ascending tuple of all parts that one member makes."""
    need_group(group)
    return tuple(sorted({closed_members(group.all_products, (member,)) for member in range(group.size)}))


def coset_leaders(group, part):
    """The ascending tuple of the least members of all cosets behind a part."""
    need_part(group, part)
    return leaders_of(group.all_products, part)


def leaders_of(products, part):
    """The members that no member of the part makes less."""
    return tuple([member for member in range(len(products))
                  if member == min([products[inner][member] for inner in part])])


def part_group(group, part):
    """The part as a group by itself."""
    need_part(group, part)
    # four renamings may be too few to make it, so it is settled with all of them
    made = Group(((0,),))
    made._settle(tuple([group.moves[member] for member in part]))
    return made


def moved_part(group, part, member):
    """The part of all that a member makes of the members of a part."""
    need_part(group, part)
    need_member(group, member)
    return moved_members(group, part, member)


def moved_members(group, part, member):
    """The ascending tuple of what a member makes of some members."""
    products, back = group.all_products, group.all_inverses[member]
    return tuple(sorted([products[products[member][inner]][back] for inner in part]))


def need_prime(prime):
    """Refuse what is no prime below 32."""
    if not is_integer(prime) or prime not in PRIMES:
        raise InvalidNumber(prime)


def prime_part(group, prime):
    """A part whose size is the greatest power of the prime that divides the group's size."""
    need_group(group)
    need_prime(prime)
    part = (0,)
    while group.size // len(part) % prime == 0:
        part = greater_part(group, part, prime)
    return part


def greater_part(group, part, prime):
    """A part that has a prime part's part, and is so many times greater."""
    products = group.all_products
    makers = [member for member in range(group.size)
              if member not in part and power_of(products, member, prime) in part
              and moved_members(group, part, member) == part]
    return closed_members(products, part + (makers[0],))


def is_commuting(group, part):
    """Whether all products of two members of the part are equal in both orders."""
    need_part(group, part)
    products = group.all_products
    return all([products[one][other] == products[other][one] for one in part for other in part])


def normalizer_of(group, part):
    """The part of all members that move the part to itself."""
    need_part(group, part)
    return tuple([member for member in range(group.size) if moved_members(group, part, member) == part])


def centralizer_of(group, part):
    """The part of all members that commute with each member of the part."""
    need_part(group, part)
    products = group.all_products
    return tuple([member for member in range(group.size)
                  if all([products[member][inner] == products[inner][member] for inner in part])])


def few_makers(group):
    """Few members that make the group; (0,) for the group of one member."""
    products = group.all_products
    makers, made = (), (0,)
    while len(made) < group.size:
        maker, made = greatest_maker(products, makers, made)
        makers = makers + (maker,)
    return makers or (0,)


def greatest_maker(products, makers, made):
    """The least member that makes the most beside some makers, and what they all make."""
    found, greatest = 0, made
    known = {member: True for member in made}
    for member in range(len(products)):
        # a member of what one ahead of it makes does not make more than that one
        if member not in known:
            further = closed_members(products, makers + (member,))
            known.update({inner: True for inner in further})
            if len(further) > len(greatest):
                found, greatest = member, further
    return found, greatest
