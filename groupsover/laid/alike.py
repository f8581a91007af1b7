"""Closed 2-rows whose groups of pairs are alike over both sides, or led to one another by both sides."""

from groupsover.base.floors import need_finite, need_floor
from groupsover.base.groups import need_group
from groupsover.base.same_maps import need_few_tables
from groupsover.errors import InvalidMap, TooMany
from groupsover.laid.leading import Leaders, has_leader, leader_between, led_entries, lots_of, self_maps_of
from groupsover.rows.classes import Classes
from groupsover.rows.closed import has_test, need_listed, value_at
from groupsover.rows.plain import change_of, sum_of_rows
from groupsover.rows.rows import MAX_STEP, has_row, need_asked, need_closed, need_row, need_step, short_row
from groupsover.rows.solving import Changes

MAX_LED_GROUP = 12
MAX_LED_TABLES = 256


def need_two_rows(floor, row, further):
    """Refuse what is no floor, and what are no 2-rows."""
    need_floor(floor)
    need_row(floor, 2, row)
    need_row(floor, 2, further)


def need_two_closed(floor, row, further):
    """Refuse steps with too many tuples, and rows that are not closed."""
    need_asked(floor, 2)
    need_closed(floor, 2, row)
    need_closed(floor, 2, further)


def closed_difference(floor, row, further):
    """The difference of two closed 2-rows, behind all checks."""
    need_two_rows(floor, row, further)
    need_two_closed(floor, row, further)
    return sum_of_rows(floor.rests, row, -1, further)


def alike_map(floor, row, further):
    """A 1-row whose change is the row less the further one, None if there is none."""
    difference = closed_difference(floor, row, further)
    source = Changes(floor, 2).source(difference)
    return None if source is None else short_row(source)


def is_alike_map(floor, row, further, value):
    """Whether the value is a 1-row whose change is the row less the further one."""
    difference = closed_difference(floor, row, further)
    return has_row(floor, 1, value) and change_of(floor, 1, value) == difference


def unlike_test(floor, row, further):
    """A test whose value at the row less the further one is not (0, 1), None if there is none."""
    difference = closed_difference(floor, row, further)
    return Changes(floor, 2).test(difference)


def is_unlike_test(floor, row, further, value):
    """Whether the value is a test that is not (0, 1) at the row less the further one."""
    difference = closed_difference(floor, row, further)
    return has_test(floor, 2, value) and value_at(value, difference) != (0, 1)


def need_few_members(group):
    """Refuse groups with too many members to tell their self maps."""
    if group.size > MAX_LED_GROUP:
        raise TooMany(MAX_LED_GROUP)


def self_maps(group):
    """The ascending tuple of all self maps of the group."""
    need_group(group)
    need_few_members(group)
    return tuple(self_maps_of(group))


def is_leader(floor, value):
    """Whether the value is a leader of the floor."""
    need_floor(floor)
    return has_leader(floor, value)


def need_led(floor):
    """Refuse floors for which leaders are not told."""
    need_finite(floor)
    need_few_members(floor.group)
    need_few_tables(floor.rests, MAX_LED_TABLES)


def leaders(floor):
    """The ascending tuple of all leaders whose tables have no greater entries than they need."""
    need_floor(floor)
    need_led(floor)
    return Leaders(floor).all_leaders()


def led_row(floor, leader, step, row):
    """The row to which a leader leads a row."""
    need_floor(floor)
    if not has_leader(floor, leader):
        raise InvalidMap("this is no leader of the floor")
    need_step(step, 0, MAX_STEP)
    need_row(floor, step, row)
    need_asked(floor, step)
    return short_row(led_entries(floor.rests, leader, row))


def led_paper(floor, row, further):
    """A leader, and a 1-row whose change is the led row less the further one, None if there are none."""
    need_two_rows(floor, row, further)
    need_led(floor)
    need_two_closed(floor, row, further)
    leader = leader_between(floor, row, further)
    if leader is None:
        return None
    difference = sum_of_rows(floor.rests, led_entries(floor.rests, leader, row), -1, further)
    return leader, short_row(Changes(floor, 2).source(difference))


def is_led_paper(floor, row, further, value):
    """Whether the value is a leader and a 1-row whose change is the led row less the further one."""
    need_two_rows(floor, row, further)
    need_two_closed(floor, row, further)
    if not isinstance(value, tuple) or len(value) != 2:
        return False
    if not has_leader(floor, value[0]) or not has_row(floor, 1, value[1]):
        return False
    led = led_entries(floor.rests, value[0], row)
    return change_of(floor, 1, value[1]) == sum_of_rows(floor.rests, led, -1, further)


def led_sizes(floor):
    """How many classes of closed 2-rows each lot has that leaders lead to one another."""
    need_floor(floor)
    need_led(floor)
    need_listed(floor, 2)
    return lots_of(Classes(floor, 2), Leaders(floor).few())
