"""Rules and generators: closed rows of the first two steps, told at few letters and words."""

from math import gcd

from groupsover.base.checks import is_integer, is_within
from groupsover.base.floors import need_floor
from groupsover.base.groups import closed_members, is_member, need_group
from groupsover.base.middles import list_between
from groupsover.base.reckoning import has_value, led_value, multiple_of, reduced, sum_of_values
from groupsover.base.same_maps import primes_of
from groupsover.errors import InvalidNumber, InvalidOperation, InvalidRow, Refused, TooMany
from groupsover.ladders.sums import row_of_line
from groupsover.ladders.working import list_of_ladder
from groupsover.rows.plain import are_short_values, change_of, sum_of_rows, summed_of, tidy_row
from groupsover.rows.rows import need_asked, need_closed, need_row, need_step, short_row
from groupsover.rows.solving import nearest_part
from groupsover.rules.fewer import WayRows, enough_at
from groupsover.rules.loops import Loops, bundle_of, member_of_word, moved_bundle

MAX_WORDS = 12
MAX_WORD = 40
MAX_RULED = 24
MOST_LETTERS = 4
# for a group with fewer members for each place it is worth while to leave equations out
FEW_PLACES = 4


class Rules:
    """Letters that make a group, and words that are 0 and tell all others that are."""

    def __init__(self, group, letters, words):
        need_group(group)
        if not are_letters(group, letters):
            raise InvalidOperation("the letters are one to four unlike members that make the group")
        if not are_rules(group, letters, words):
            raise InvalidOperation("the rules are one to twelve words whose member is 0")
        if group.size > MAX_RULED:
            raise TooMany(MAX_RULED)
        self._group = group
        self._letters = letters
        self._words = words
        self._bundles = [bundle_of(group, letters, word) for word in words]
        self._loops = Loops(group, letters, self._bundles)
        if not self._loops.are_full():
            raise Refused(("full",))

    @property
    def ruled_group(self):
        """The group."""
        return self._group

    @property
    def letters(self):
        """The members that make the group."""
        return self._letters

    @property
    def words(self):
        """The rules."""
        return self._words

    def need_word(self, word):
        """Refuse what is no word."""
        if not is_word(self._letters, word):
            raise InvalidOperation("this is no word in the letters")

    def member_of(self, word):
        """The product of a word from left to right."""
        self.need_word(word)
        return member_of_word(self._group, self._letters, word)

    def slope(self, word, index):
        """The slope of a word at the letter with an index."""
        self.need_word(word)
        if not is_within(index, 0, len(self._letters) - 1):
            raise InvalidNumber(index)
        return slope_at(bundle_of(self._group, self._letters, word), index)

    def rule_bundles(self):
        """The bundle of each rule, to be read alone."""
        return self._bundles

    def known_loops(self):
        """The loops of the letters, to be read alone."""
        return self._loops

    def __eq__(self, other):
        return (isinstance(other, Rules) and self._group == other._group and self._letters == other._letters
                and self._words == other._words)


def are_letters(group, value):
    """Whether the value is a tuple of one to four unlike members that make the group."""
    if not isinstance(value, tuple) or not 1 <= len(value) <= MOST_LETTERS:
        return False
    if not all([is_member(group, letter) for letter in value]) or len(set(value)) != len(value):
        return False
    return len(closed_members(group.all_products, value)) == group.size


def is_word(letters, value):
    """Whether the value is a word in some letters."""
    if not isinstance(value, tuple) or len(value) > MAX_WORD:
        return False
    return all([is_integer(entry) and 1 <= abs(entry) <= len(letters) for entry in value])


def are_rules(group, letters, value):
    """Whether the value is a tuple of one to twelve words whose member is 0."""
    if not isinstance(value, tuple) or not 1 <= len(value) <= MAX_WORDS:
        return False
    if not all([is_word(letters, word) for word in value]):
        return False
    return all([member_of_word(group, letters, word) == 0 for word in value])


def slope_at(bundle, index):
    """The slope that a bundle has at the letter with an index."""
    return {member: bundle[(at, member)] for at, member in bundle if at == index}


def need_rules_for(floor, rules):
    """Refuse what is no floor, and what are no rules for its group."""
    need_floor(floor)
    if not isinstance(rules, Rules) or rules.ruled_group != floor.group:
        raise InvalidOperation("these are no rules for the group of the floor")


def need_places(floor, places, many):
    """Refuse what is no tuple of so many values of the floor."""
    if not isinstance(places, tuple) or len(places) != many or not all([has_value(floor.rests, x) for x in places]):
        raise InvalidRow("this is no tuple of as many values")


def bend(floor, bundle, places):
    """What a bundle makes of a value for each letter."""
    total = (0,) * floor.places
    for at, member in bundle:
        moved = led_value(floor.rests, floor.tables[member], places[at])
        total = sum_of_values(floor.rests, total, bundle[(at, member)], moved)
    return total


def crossed_row(floor, rules, places):
    """The closed 1-row with a value for each letter, None if there is none."""
    need_rules_for(floor, rules)
    need_places(floor, places, len(rules.letters))
    if any([entry for bundle in rules.rule_bundles() for entry in bend(floor, bundle, places)]):
        return None
    found = {0: (0,) * floor.places}
    tree = rules.known_loops().tree
    for member in tree:
        at, ahead = tree[member]
        found[member] = sum_of_values(floor.rests, found[ahead], 1,
                                      led_value(floor.rests, floor.tables[ahead], places[at]))
    return short_row(tidy_row({(member,): found[member] for member in found}))


def word_values(floor, rules, row):
    """The tuple of the word values of a closed 2-row."""
    need_rules_for(floor, rules)
    need_row(floor, 2, row)
    need_asked(floor, 2)
    need_closed(floor, 2, row)
    # a pair (y, g), joined with that of a letter t, gets the value of the row at g and t
    letters, found = rules.letters, []
    for bundle in rules.rule_bundles():
        total = [0] * floor.places
        for at, member in bundle:
            value = row.get((member, letters[at]), (0,) * floor.places)
            total = [entry + bundle[(at, member)] * part for entry, part in zip(total, value)]
        found.append(reduced(floor.rests, total))
    return tuple(found)


def way_values(floor, rules, places):
    """The value at each way that some word values lead to, None if they are not those of a closed row."""
    loops = rules.known_loops()
    # the loop of each moved rule is to get the moved value of the rule
    moved = [led_value(floor.rests, table, value) for value in places for table in floor.tables]
    spans = {rest: loops.span_for(rest) for rest in sorted(set(floor.rests))}
    found = [loops.solved(spans[rest], rest, [value[place] for value in moved])
             for place, rest in enumerate(floor.rests)]
    if None in found:
        return None
    return {way: tuple([entries[at] for entries in found]) for at, way in enumerate(loops.ways)}


def row_of_ways(floor, rules, known):
    """The closed 2-row that asks the tree's way of the second member for the values at the ways."""
    products, tree, rests = floor.group.all_products, rules.known_loops().tree, floor.rests
    zero, found = (0,) * floor.places, {}
    for one in range(floor.group.size):
        found[(one, 0)] = zero
        for member in tree:
            at, ahead = tree[member]
            value = known.get((at, products[one][ahead]), zero)
            found[(one, member)] = sum_of_values(rests, found[(one, ahead)], 1, value)
    row = tidy_row(found)
    if 0 in rules.letters:
        # the letter 0 is above 0, too, so its own pair is taken there
        lower = tidy_row({(0,): known[(rules.letters.index(0), 0)]})
        row = sum_of_rows(rests, row, 1, change_of(floor, 1, lower))
    return row


def row_of_values(floor, rules, places):
    """A closed 2-row with some word values, None if there is none."""
    need_rules_for(floor, rules)
    need_places(floor, places, len(rules.words))
    known = way_values(floor, rules, places)
    if known is None:
        return None
    row = row_of_ways(floor, rules, known)
    if not are_short_values(row):
        # other pairs may be taken above all members but the letters
        mean = nearest_part(floor.rests, summed_of(floor.rests, 2, row), floor.group.size)
        free = {members: mean[members] for members in mean if members[0] not in rules.letters}
        row = sum_of_rows(floor.rests, row, -1, change_of(floor, 1, free))
    return short_row(row)


def is_identity(rules, value):
    """Whether the value tells how many of each moved rule add up to 0."""
    if not isinstance(rules, Rules):
        raise InvalidOperation("these are no rules")
    if not isinstance(value, dict) or not all([is_rule_spot(rules, spot) for spot in value]):
        return False
    if not all([is_integer(times) and times != 0 for times in value.values()]):
        return False
    total, bundles = {}, rules.rule_bundles()
    for index, member in value:
        moved = moved_bundle(rules.ruled_group, bundles[index], member)
        for spot in moved:
            total[spot] = total.get(spot, 0) + value[(index, member)] * moved[spot]
    return not any(list(total.values()))


def is_rule_spot(rules, value):
    """Whether the value is a pair of the index of a rule and a member."""
    if not isinstance(value, tuple) or len(value) != 2:
        return False
    return is_within(value[0], 0, len(rules.words) - 1) and is_member(rules.ruled_group, value[1])


def slopes_of(bundle, many):
    """The slopes of a bundle at so many letters, as a row of sums of members."""
    return tuple([slope_at(bundle, at) for at in range(many)])


def first_table(rules):
    """The table of sums by which a value leads to its change at the letters."""
    return tuple([({0: -1, letter: 1} if letter else {},) for letter in rules.letters])


def lines_at(rules, ways):
    """For some ways, told by their indices, what the loop there makes of values at the letters, as a row of sums."""
    loops, many = rules.known_loops(), len(rules.letters)
    return [row_of_line(slopes_of(loops.loop_at(loops.ways[at]), many)) for at in ways]


def equations_for(floor, rules):
    """Some ways that tell all others, and equations between them, to which closed 2-rows on the floor keep.

    They are told by the values of loops: that of a moved loop is the moved value of the loop.
    """
    group, loops = floor.group, rules.known_loops()
    rows = WayRows(group, loops.moved_equations())
    free, left = [at for at in range(len(loops.ways)) if at not in rows.told], list(rows.left_rows.values())
    if floor.places * FEW_PLACES <= group.size:
        return free, left
    # all equations together make as many as the values of moved ways are more than loops
    rank = group.size * len(free) - len(loops.ways)
    found = []
    for prime in primes_of(gcd(group.size, multiple_of(floor.rests))):
        found.extend([row for row in enough_at(group, left, rank, prime) if row not in found])
    return free, found


def second_list(floor, rules):
    """The list of the step 2."""
    if gcd(floor.group.size, multiple_of(floor.rests)) == 1:
        # here what is of finite order is closed
        return list_between(floor, lines_at(rules, list(range(len(rules.known_loops().ways)))), [])
    free, equations = equations_for(floor, rules)
    column_of = {way: at for at, way in enumerate(free)}
    return list_between(floor, lines_at(rules, free), [{column_of[way]: row[way] for way in row} for row in equations])


def rules_list(floor, rules, step):
    """The list of the step 1 or 2, by the rules alone."""
    need_rules_for(floor, rules)
    need_step(step, 1, 2)
    if step == 2:
        return second_list(floor, rules)
    bends = tuple([slopes_of(bundle, len(rules.letters)) for bundle in rules.rule_bundles()])
    return list_of_ladder(floor, (first_table(rules), bends), 1)
