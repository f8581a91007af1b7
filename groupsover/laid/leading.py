"""Self maps of groups, leaders of floors, and what leaders make of classes of closed 2-rows."""

from groupsover.base.groups import few_makers, is_member, order_of
from groupsover.base.reckoning import is_keeping, joined_table, led_value, multiple_of, unit_of
from groupsover.base.same_maps import OneToOne, one_to_one_tables
from groupsover.rows.classes import CleanSpots, change_echelon
from groupsover.rows.plain import cleaned, tidy_row


def has_self_map(group, value):
    """Whether the value is a self map of the group."""
    if not isinstance(value, tuple) or len(value) != group.size:
        return False
    if not all([is_member(group, member) for member in value]) or len(set(value)) != group.size:
        return False
    # what goes along with all products with makers goes along with all products
    products, makers = group.all_products, few_makers(group)
    return all([value[products[member][maker]] == products[value[member]][value[maker]]
                for member in range(group.size) for maker in makers])


def spread_map(products, makers, images):
    """The map of all products of makers that takes makers to images, None if there is none, or two go to one."""
    found, waiting = {0: 0}, [0]
    while waiting:
        known = waiting.pop()
        for maker, image in zip(makers, images):
            further, goal = products[known][maker], products[found[known]][image]
            if further not in found:
                found[further] = goal
                waiting.append(further)
            elif found[further] != goal:
                return None
    return found if len(set(list(found.values()))) == len(found) else None


def self_maps_of(group, most=None):
    """The ascending list of all self maps; one more than so many at most, where this is told."""
    products, makers = group.all_products, few_makers(group)
    orders = [order_of(products, member) for member in range(group.size)]
    found, waiting = [], [()]
    while waiting and (most is None or len(found) <= most):
        images = waiting.pop()
        known = spread_map(products, makers[:len(images)], images)
        if known is not None and len(images) == len(makers):
            found.append(tuple([known[member] for member in range(group.size)]))
        elif known is not None:
            order = orders[makers[len(images)]]
            waiting.extend([images + (image,) for image in range(group.size) if orders[image] == order])
    return sorted(found)


def has_leader(floor, value):
    """Whether the value is a leader of the floor."""
    if not isinstance(value, tuple) or len(value) != 2 or not has_self_map(floor.group, value[0]):
        return False
    turned, table = value
    if not is_keeping(table, floor.rests, floor.rests) or not OneToOne(floor.rests).does_fit(table):
        return False
    rests, tables = floor.rests, floor.tables
    return all([joined_table(rests, table, tables[maker]) == joined_table(rests, tables[turned[maker]], table)
                for maker in few_makers(floor.group)])


class Leaders:
    """All leaders of a finite floor: for each self map the tables that go along with it."""

    def __init__(self, floor):
        self.told_floor = floor
        self.asked_makers = few_makers(floor.group)
        self.known = one_to_one_tables(floor.rests)
        self.maps = self_maps_of(floor.group)
        self.led = {}
        self.fits = {}
        for turned in self.maps:
            goals = self.goals_of(turned)
            if goals not in self.fits:
                self.fits[goals] = self.fitting(goals)

    def goals_of(self, turned):
        """The tables of the members to which makers are led."""
        return tuple([self.told_floor.tables[turned[maker]] for maker in self.asked_makers])

    def fitting(self, goals):
        """The tables that turn the tables of makers to the goals."""
        rests, unit = self.told_floor.rests, unit_of(self.told_floor.rests)
        pairs = [(self.told_floor.tables[maker], goal) for maker, goal in zip(self.asked_makers, goals)]
        if any([one != goal and (unit in (one, goal) or len(rests) == 1) for one, goal in pairs]):
            return []
        left = list(range(len(self.known)))
        for one, goal in pairs:
            if one != unit and len(rests) > 1:
                ahead, behind = self.products_with(one, False), self.products_with(goal, True)
                left = [at for at in left if ahead[at] == behind[at]]
        return [self.known[at] for at in left]

    def products_with(self, one, is_behind):
        """For each table what it makes of what the one makes, or what this one makes of what it makes."""
        if (one, is_behind) not in self.led:
            rests = self.told_floor.rests
            self.led[(one, is_behind)] = [joined_table(rests, one, table) if is_behind
                                          else joined_table(rests, table, one) for table in self.known]
        return self.led[(one, is_behind)]

    def all_leaders(self):
        """The ascending tuple of all leaders."""
        return tuple([(turned, table) for turned in self.maps for table in self.fits[self.goals_of(turned)]])

    def few(self):
        """Few leaders that make all of them, one done after the other."""
        rests, still = self.told_floor.rests, tuple(range(self.told_floor.group.size))
        tables = makers_of(self.fits[self.goals_of(still)], unit_of(rests),
                           lambda one, other: joined_table(rests, one, other))
        led = [turned for turned in self.maps if self.fits[self.goals_of(turned)]]
        turns = makers_of(led, still, joined_map_of)
        return ([(still, table) for table in tables]
                + [(turned, self.fits[self.goals_of(turned)][0]) for turned in turns])


def joined_map_of(one, other):
    """The self map that does the other one, and then the first one."""
    return tuple([one[member] for member in other])


def joined_leader(rests, one, other):
    """The leader that does the other one, and then the first one."""
    return joined_map_of(one[0], other[0]), joined_table(rests, one[1], other[1])


def makers_of(known, unit, joining):
    """Few of the known ones that make all of them; all that they make are known."""
    makers, reached = [], {unit: True}
    for one in known:
        if one not in reached:
            makers.append(one)
            reached = {unit: True}
            waiting = [unit]
            while waiting:
                last = waiting.pop()
                for maker in makers:
                    further = joining(maker, last)
                    if further not in reached:
                        reached[further] = True
                        waiting.append(further)
    return makers


def led_entries(rests, leader, row):
    """The row to which a leader leads a row, however long its integers are."""
    turned, table = leader
    return tidy_row({tuple([turned[member] for member in members]): led_value(rests, table, row[members])
                     for members in row})


class ClassNames:
    """A name for each class of closed 2-rows of a finite floor: what is left of its rows once changes are taken off."""

    def __init__(self, floor):
        self.told_floor = floor
        self.modulus = multiple_of(floor.rests)
        self.spots = CleanSpots(floor, 2)
        self.changes = change_echelon(floor, 2, self.modulus)

    def name_of(self, row):
        """The name of the class of a row."""
        clean, _ = cleaned(self.told_floor, 2, row)
        left = self.changes.least_like(self.spots.entries(clean, [1] * self.told_floor.places, self.modulus))
        return tuple([(column, left[column]) for column in sorted(left)])

    def row_of(self, name):
        """The row that is its class's name."""
        return self.spots.row_of(dict(name))


def leader_between(floor, row, further):
    """A leader that leads the class of a row to the class of a further one, None if there is none."""
    names = ClassNames(floor)
    goal, start = names.name_of(further), names.name_of(row)
    still = (tuple(range(floor.group.size)), unit_of(floor.rests))
    reached, waiting = {start: still}, [start]
    makers = [] if goal == start else Leaders(floor).few()
    at = 0
    while at < len(waiting) and goal not in reached:
        known = names.row_of(waiting[at])
        for maker in makers:
            name = names.name_of(led_entries(floor.rests, maker, known))
            if name not in reached:
                reached[name] = joined_leader(floor.rests, maker, reached[waiting[at]])
                waiting.append(name)
        at += 1
    return reached.get(goal)


def lots_of(classes, makers):
    """How many classes each lot has, the makers leading all classes of one lot to one another."""
    rows = classes.makers()
    leading = [[classes.place(led_entries(classes.told_floor.rests, maker, row)) for row in rows] for maker in makers]
    left = [()]
    for size in classes.sizes:
        left = [place + (entry,) for place in left for entry in range(size)]
    found, reached = [], {}
    for start in left:
        if start not in reached:
            reached[start] = True
            waiting, at = [start], 0
            while at < len(waiting):
                for led in leading:
                    place = led_place(classes.sizes, led, waiting[at])
                    if place not in reached:
                        reached[place] = True
                        waiting.append(place)
                at += 1
            found.append(len(waiting))
    return tuple(sorted(found))


def led_place(sizes, led, place):
    """The class to which a class is led, by those to which the makers are led."""
    return tuple([sum([times * one[at] for times, one in zip(place, led)]) % size for at, size in enumerate(sizes)])
