"""Three floors, each in the next one, and the endless row of their classes."""

from groupsover.base.checks import is_within
from groupsover.base.floors import Floor, is_floor_map
from groupsover.errors import InvalidFloor, InvalidMap, InvalidNumber, InvalidOperation, Refused
from groupsover.rows.classes import small_like
from groupsover.rows.closed import class_list, has_closed_row, need_listed
from groupsover.rows.plain import are_short_values, change_of, mapped_values, row_of_sums, sum_of_rows
from groupsover.rows.plain import tidy_row
from groupsover.rows.rows import MAX_STEP, has_row, need_asked, need_closed, need_row, need_step, short_row
from groupsover.rows.solving import Changes
from groupsover.triples.exactness import BackMap, first_inexact

MOST_ENDLESS = 3


class Triple:
    """Three floors over one group, and maps that lead the first into the second, and this one onto the third."""

    def __init__(self, floors, tables):
        if not are_three_floors(floors):
            raise InvalidFloor("a triple takes three floors over one group")
        if not are_two_maps(floors, tables):
            raise InvalidMap("a triple takes a map to the second floor, and one to the third")
        place = first_inexact(floors, tables)
        if place is not None:
            raise Refused(("exact", place))
        self._floors = floors
        self._tables = tables
        self._pulling = BackMap(floors[0], floors[1], tables[0])
        self._lifting = BackMap(floors[1], floors[2], tables[1])

    @property
    def three_floors(self):
        """The three floors."""
        return self._floors

    @property
    def two_maps(self):
        """The tables of both maps."""
        return self._tables

    def plainly_in(self, row):
        """The row of the second floor to which a row of the first one is led, without checks."""
        return mapped_values(self._floors[1].rests, self._tables[0], row)

    def plainly_out(self, row):
        """The row of the third floor to which a row of the second one is led, without checks."""
        return mapped_values(self._floors[2].rests, self._tables[1], row)

    def plainly_lifted(self, row):
        """A row of the second floor that is led to a row of the third one, without checks."""
        return row_of_sums(self._floors[1].rests, self._lifting.row_back(row))

    def plainly_pulled(self, row):
        """The row of the first floor that is led to a row of the second one, None if there is none, without checks."""
        found = self._pulling.row_back(row)
        return None if found is None else row_of_sums(self._floors[0].rests, found)

    def need_row_at(self, place, step, row):
        """Refuse what is no step, and no row on one of the floors."""
        need_step(step, 0, MAX_STEP)
        need_row(self._floors[place], step, row)
        need_asked(self._floors[place], step)

    def led_in(self, step, row):
        """The row of the second floor to which a row of the first one is led."""
        self.need_row_at(0, step, row)
        return short_row(self.plainly_in(row))

    def led_out(self, step, row):
        """The row of the third floor to which a row of the second one is led."""
        self.need_row_at(1, step, row)
        return short_row(self.plainly_out(row))

    def lifted(self, step, row):
        """A row of the second floor that is led to a row of the third one."""
        self.need_row_at(2, step, row)
        return short_row(self.plainly_lifted(row))

    def pulled(self, step, row):
        """The row of the first floor that is led to a row of the second one, None if there is none."""
        self.need_row_at(1, step, row)
        found = self.plainly_pulled(row)
        return None if found is None else short_row(found)

    def __eq__(self, other):
        return isinstance(other, Triple) and self._floors == other._floors and self._tables == other._tables

    def __str__(self):
        return " ".join([f"triple of {self._floors[0].places}, {self._floors[1].places}",
                         f"and {self._floors[2].places} places over {len(self._floors[0].group)} members"])


def are_three_floors(value):
    """Whether the value is a tuple of three floors over one group."""
    if not isinstance(value, tuple) or len(value) != 3 or not all([isinstance(floor, Floor) for floor in value]):
        return False
    return value[0].group == value[1].group == value[2].group


def are_two_maps(floors, value):
    """Whether the value is a pair of maps, each from a floor to the next one."""
    if not isinstance(value, tuple) or len(value) != 2:
        return False
    return is_floor_map(floors[0], floors[1], value[0]) and is_floor_map(floors[1], floors[2], value[1])


def need_triple(value):
    """Refuse what is no triple."""
    if not isinstance(value, Triple):
        raise InvalidOperation("this is no triple")


def need_told_row(triple, place, step, steps, row, above):
    """Refuse what is no triple, step and closed row on one of its floors; this floor.

    `above` tells how much greater than the step the greatest step of a row is that is wanted.
    """
    need_triple(triple)
    need_step(step, steps[0], steps[1])
    floor = triple.three_floors[place]
    need_row(floor, step, row)
    need_asked(floor, step + above)
    need_closed(floor, step, row)
    return floor


def plain_next(triple, step, row):
    """A next row of a closed row, however long its integers are."""
    changed = change_of(triple.three_floors[1], step, triple.plainly_lifted(row))
    return triple.plainly_pulled(changed)


def next_row(triple, step, row):
    """A next row of a closed row of the third floor."""
    need_told_row(triple, 2, step, (0, MOST_ENDLESS), row, 1)
    found = plain_next(triple, step, row)
    if not are_short_values(found):
        # any row of the class is as good
        found = small_like(triple.three_floors[0], step + 1, found)
    return short_row(found)


def has_next_row(triple, step, row, value):
    """Whether the value is a next row of a closed row."""
    floor = triple.three_floors[0]
    if not has_closed_row(floor, step + 1, value):
        return False
    difference = sum_of_rows(floor.rests, value, -1, plain_next(triple, step, row))
    return not difference or Changes(floor, step + 1).order(difference) == 1


def is_next_row(triple, step, row, value):
    """Whether the value is a next row of a closed row of the third floor."""
    need_told_row(triple, 2, step, (0, MOST_ENDLESS), row, 1)
    return has_next_row(triple, step, row, value)


def middle_pair(triple, step, row):
    """A closed row of the second floor that is led to a closed row of the third one, and `{}`; None without one."""
    first, middle, _ = triple.three_floors
    lifted = triple.plainly_lifted(row)
    source = Changes(first, step + 1).source(triple.plainly_pulled(change_of(middle, step, lifted)))
    return None if source is None else (sum_of_rows(middle.rests, lifted, -1, triple.plainly_in(source)), {})


def outer_triple(triple, step, row):
    """A closed row of the third floor, a closed row of the first one as its next row, and `{}`; None without one."""
    source = Changes(triple.three_floors[1], step).source(triple.plainly_in(row))
    return None if source is None else (triple.plainly_out(source), tidy_row(row), {})


def inner_pair(triple, step, row):
    """A closed row of the first floor, and a row whose change parts it from one of the second; None without one."""
    led = triple.plainly_out(row)
    if step == 0:
        return None if led else (triple.plainly_pulled(row), {})
    _, middle, last = triple.three_floors
    source = Changes(last, step).source(led)
    if source is None:
        return None
    lifted = triple.plainly_lifted(source)
    left = sum_of_rows(middle.rests, row, -1, change_of(middle, step - 1, lifted))
    return triple.plainly_pulled(left), lifted


def short_way(triple, floor, step, row, finding):
    """What a finding tells of a closed row, in short integers, if this can be helped."""
    found = finding(triple, step, row)
    if found is not None and step and not all([are_short_values(part) for part in found]):
        # a lesser row of the class comes from the same place, and the rest is a change
        small = small_like(floor, step, row)
        lower = Changes(floor, step).source(sum_of_rows(floor.rests, row, -1, small))
        found = finding(triple, step, small)
        found = found[:-1] + (sum_of_rows(floor.rests, found[-1], 1, lower),)
    return None if found is None else tuple([short_row(part) for part in found])


def back_to_middle(triple, step, row):
    """A closed row of the second floor, and a row whose change is what the closed row has more than it, led out."""
    floor = need_told_row(triple, 2, step, (0, MOST_ENDLESS), row, 1)
    return short_way(triple, floor, step, row, middle_pair)


def back_to_outer(triple, step, row):
    """A closed row of the third floor, a next row, and a row whose change is what the closed row has more than it."""
    floor = need_told_row(triple, 0, step, (1, MAX_STEP), row, 0)
    return short_way(triple, floor, step, row, outer_triple)


def back_to_inner(triple, step, row):
    """A closed row of the first floor, and a row whose change is what the closed row has more than it, led in."""
    floor = need_told_row(triple, 1, step, (0, MAX_STEP), row, 0)
    return short_way(triple, floor, step, row, inner_pair)


def is_left_change(floor, step, row, led, value):
    """Whether the value is a row one step below whose change is what a row is more than a led one."""
    left = sum_of_rows(floor.rests, row, -1, led)
    if step == 0:
        return value == {} and not left
    return has_row(floor, step - 1, value) and change_of(floor, step - 1, value) == left


def is_tuple_of(value, many):
    """Whether the value is a tuple of so many."""
    return isinstance(value, tuple) and len(value) == many


def is_back_to_middle(triple, step, row, value):
    """Whether the value tells where a closed row of the third floor comes from."""
    floor = need_told_row(triple, 2, step, (0, MOST_ENDLESS), row, 0)
    if not is_tuple_of(value, 2) or not has_closed_row(triple.three_floors[1], step, value[0]):
        return False
    return is_left_change(floor, step, row, triple.plainly_out(value[0]), value[1])


def is_back_to_outer(triple, step, row, value):
    """Whether the value tells where a closed row of the first floor comes from."""
    floor = need_told_row(triple, 0, step, (1, MAX_STEP), row, 0)
    if not is_tuple_of(value, 3) or not has_closed_row(triple.three_floors[2], step - 1, value[0]):
        return False
    if not has_next_row(triple, step - 1, value[0], value[1]):
        return False
    return is_left_change(floor, step, row, value[1], value[2])


def is_back_to_inner(triple, step, row, value):
    """Whether the value tells where a closed row of the second floor comes from."""
    floor = need_told_row(triple, 1, step, (0, MAX_STEP), row, 0)
    if not is_tuple_of(value, 2) or not has_closed_row(triple.three_floors[0], step, value[0]):
        return False
    return is_left_change(floor, step, row, triple.plainly_in(value[0]), value[1])


def endless_lists(triple, number):
    """For the steps from 0 to a number the lists of the three floors."""
    need_triple(triple)
    if not is_within(number, 0, MOST_ENDLESS):
        raise InvalidNumber(number)
    for floor in triple.three_floors:
        need_listed(floor, number)
    return tuple([tuple([class_list(one, step) for one in triple.three_floors]) for step in range(number + 1)])
