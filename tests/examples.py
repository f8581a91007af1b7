"""Values and helpers that several tests use."""

import random
from itertools import product
from math import gcd, lcm

from groupsover.base.floors import Floor
from groupsover.base.groups import Group

C1 = Group.round(1)
C2 = Group.round(2)
C3 = Group.round(3)
C4 = Group.round(4)
C5 = Group.round(5)
C6 = Group.round(6)
V4 = Group.both(C2, C2)
S3 = Group(((1, 2, 0), (1, 0, 2)))
D4 = Group(((1, 2, 3, 0), (0, 3, 2, 1)))
Q8 = Group(((1, 2, 3, 0, 5, 6, 7, 4), (4, 7, 6, 5, 2, 1, 0, 3)))
A4 = Group(((1, 2, 0, 3), (1, 0, 3, 2)))
S4 = Group(((1, 2, 3, 0), (1, 0, 2, 3)))
E8 = Group.both(V4, C2)
E16 = Group.both(V4, V4)
E32 = Group.both(E16, C2)

Z2 = Floor.still(C2, (2,))
Z3 = Floor.still(C3, (3,))
ZS = Floor(C2, (0,), (((1,),), ((-1,),)))
PLANE = Floor.made(C3, (0, 0), {1: ((0, -1), (1, -1))})
SIGN = Floor.made(S3, (0,), {1: ((-1,),), 2: ((-1,),)})
WALL = Floor.made(S3, (0, 0), {2: ((0, 1), (1, 0)), 3: ((0, -1), (1, -1))})
SWAP = Floor(C2, (0, 0), (((1, 0), (0, 1)), ((0, 1), (1, 0))))
# whole and finite places that do not come apart
MIXED = Floor(C2, (0, 4), (((1, 0), (0, 1)), ((-1, 0), (1, 1))))
GREAT = Floor.made(C2, (0, 0), {1: ((1, 10 ** 30), (0, -1))})
TWIST = Floor(C2, (2, 4), (((1, 0), (0, 1)), ((1, 0), (2, 1))))

LONGEST = 10 ** 60 - 1
TOO_LONG = 10 ** 60
# what is neither an integer, a tuple nor an object of a wanted class
WRONG = (None, True, False, "a", "", [], {}, [1], {1: 2}, "0,1", 10 ** 219, -10 ** 219)
NO_NUMBERS = (None, True, False, "1", "", [], {}, (), (1,), TOO_LONG, -TOO_LONG, 10 ** 219, C2, Z2)
NO_GROUPS = (None, True, 2, "C2", (), ((0, 1),), [C2], {}, Z2)
NO_FLOORS = (None, True, 2, "Z2", (), [Z2], {}, C2)
NO_PARTS = WRONG + ((), (1,), (0, 0), (1, 0), [0], (0, True), (False,), (0, 99), (0, -1), (0, TOO_LONG), ("0",), (0, None),
                    ((0,),), C2)


def regular(group, rest):
    """The floor with a place for each member, which the members lead to one another."""
    makers = {member: tuple(tuple(1 if group.product(member, column) == row else 0 for column in group)
                            for row in group) for member in group}
    return Floor.made(group, (rest,) * group.size, makers)


def values_of(floor):
    """All values of a finite floor."""
    return list(product(*[range(rest) for rest in floor.rests]))


def tuples_of(group, step):
    """All tuples of so many members."""
    return list(product(range(group.size), repeat=step))


def orders_in_list(numbers):
    """How many members of each order a list of integers from 2 on tells."""
    found = {}
    for member in product(*[range(number) for number in numbers]):
        order = lcm(1, *[number // gcd(entry, number) for entry, number in zip(member, numbers)])
        found[order] = found.get(order, 0) + 1
    return found


def some_row(floor, step, bound, seed):
    """A row with integers up to a bound, always the same one for a seed."""
    source = random.Random(seed)
    row = {}
    for members in tuples_of(floor.group, step):
        value = tuple(source.randint(-bound, bound) for _ in floor.rests)
        value = tuple(entry % rest if rest else entry for entry, rest in zip(value, floor.rests))
        if any(value) and source.random() < 0.8:
            row[members] = value
    return row


def slow_change(floor, step, row):
    """The change, by its words alone."""
    zero = (0,) * floor.places
    found = {}
    for members in tuples_of(floor.group, step + 1):
        parts = [[sum(a * b for a, b in zip(line, row.get(members[1:], zero)))
                  for line in floor.tables[members[0]]]]
        for at in range(step):
            joined = floor.group.product(members[at], members[at + 1])
            value = row.get(members[:at] + (joined,) + members[at + 2:], zero)
            parts.append([(-1) ** (at + 1) * entry for entry in value])
        parts.append([(-1) ** (step + 1) * entry for entry in row.get(members[:-1], zero)])
        value = tuple(sum(entries) % rest if rest else sum(entries) for entries, rest in zip(zip(*parts), floor.rests))
        if any(value):
            found[members] = value
    return found


def wrong_rows(floor, step):
    """What is no row for a step, the step being below 4."""
    zero, unit = (0,) * floor.places, (1,) + (0,) * (floor.places - 1)
    at = (0,) * step
    wrong = [value for value in WRONG if value != {}]
    wrong += [{at: zero}, {at: unit + (0,)}, {at: unit[1:]}, {at: list(unit)}, {at: None}, {at: (True,) + unit[1:]},
              {at: 1}, {at + (0,): unit}, {0: unit}, {"a": unit}, {None: unit}, {at: (TOO_LONG,) + unit[1:]},
              {at: unit, (0,) * (step + 2): unit}, ((at, unit),), [], floor]
    if step:
        wrong += [{(): unit}, {(floor.group.size,) + at[1:]: unit}, {(-1,) + at[1:]: unit}, {(True,) + at[1:]: unit},
                  {("0",) + at[1:]: unit}, {((),) + at[1:]: unit}]
    if floor.rests[0]:
        wrong += [{at: (floor.rests[0],) + unit[1:]}, {at: (-1,) + unit[1:]}]
    return tuple(wrong)


def wrong_values(floor):
    """What is no value of a floor."""
    unit = (1,) + (0,) * (floor.places - 1)
    wrong = WRONG + ((), unit + (0,), unit[1:], list(unit), (True,) + unit[1:], (TOO_LONG,) + unit[1:], (unit,), floor,
                     (None,) + unit[1:], ("1",) + unit[1:])
    if floor.rests[0]:
        wrong += ((floor.rests[0],) + unit[1:], (-1,) + unit[1:])
    return wrong


class Refusals:
    """What tests ask of errors."""

    def refuse_in_order(self, call, right, wrongs):
        """Each wrong argument alone is refused, and ahead of the arguments that are checked behind it.

        `wrongs` has for each argument its index, wrong values and their error, in the order of the checks.
        """
        for at, (index, values, error) in enumerate(wrongs):
            for value in values:
                given = list(right)
                given[index] = value
                self.refused_for(error, value, call, given)
                for further, others, _ in wrongs[at + 1:]:
                    both = list(given)
                    both[further] = others[0]
                    self.refused_for(error, value, call, both)

    def refused_for(self, error, value, call, given):
        """The call raises just this error; if it is about a number, it keeps the value."""
        with self.assertRaises(error) as caught:
            call(*given)
        self.assertIs(caught.exception.__class__, error)
        if hasattr(caught.exception, "given"):
            self.assertIs(caught.exception.given, value)

    def refused(self, error, call, *given, **named):
        """The call raises just this error, with these attributes."""
        with self.assertRaises(error) as caught:
            call(*given)
        self.assertIs(caught.exception.__class__, error)
        for name, wanted in named.items():
            kept = getattr(caught.exception, name)
            self.assertEqual(kept, wanted)
            self.assertIs(kept.__class__, wanted.__class__)

    def refused_number(self, call, given, *more):
        """The call raises InvalidNumber for this argument."""
        from groupsover.errors import InvalidNumber
        with self.assertRaises(InvalidNumber) as caught:
            call(*more)
        self.assertIs(caught.exception.given, given)
