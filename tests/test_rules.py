"""Rules and generators: points 16.1 to 16.6."""

import random
import unittest
from itertools import product

from examples import (A4, C1, C2, C3, C4, C5, C6, D4, E8, E32, LONGEST, MIXED, NO_FLOORS, NO_GROUPS, NO_NUMBERS, PLANE, Q8,
                      Refusals, S3, S4, SIGN, SWAP, TOO_LONG, TWIST, V4, WALL, WRONG, Z2, Z3, ZS, regular, some_row,
                      slow_change, values_of, wrong_rows, wrong_values)
from groupsover.base.floors import Floor
from groupsover.base.groups import Group
from groupsover.errors import InvalidFloor, InvalidGroup, InvalidNumber, InvalidOperation, InvalidRow, Refused, TooMany
from groupsover.ladders.ladders import bar_ladder, ladder_list, round_ladder
from groupsover.laid.layings import Layering
from groupsover.products.again import list_again, made_commuting
from groupsover.rows.closed import are_one_class, class_list, class_makers, class_order, is_closed, source_of
from groupsover.rows.rows import change, is_row, row_difference, row_sum, row_times
from groupsover.rules import rules
from groupsover.rules.rules import Rules, crossed_row, is_identity, row_of_values, rules_list, word_values


def letters_with(group, wanted):
    """Letters for which some words are 0, and that make the group."""
    many = max(abs(entry) for word in wanted for entry in word)
    for letters in product(group, repeat=many):
        if len(set(letters)) == many and all(value_of(group, letters, word) == 0 for word in wanted):
            try:
                return letters, Rules(group, letters, wanted)
            except (InvalidOperation, Refused):
                continue
    raise AssertionError("no letters")


def value_of(group, letters, word):
    """The product of a word, by its words."""
    member = 0
    for entry in word:
        letter = letters[abs(entry) - 1]
        member = group.product(member, letter if entry > 0 else group.inverse(letter))
    return member


def slow_slope(group, letters, word, index):
    """The slope of a word, by its words."""
    found = {}
    for at, entry in enumerate(word):
        if abs(entry) - 1 == index:
            spot = value_of(group, letters, word[:at] if entry > 0 else word[:at + 1])
            found[spot] = found.get(spot, 0) + (1 if entry > 0 else -1)
    return {member: times for member, times in found.items() if times}


def commutator(i, j):
    return (i, j, -i, -j)


R1 = Rules(C1, (0,), ((1,),))
R2, R6 = Rules(C2, (1,), ((1, 1),)), Rules(S3, (3, 2), ((1, 1, 1), (2, 2), (1, 2, 1, 2)))
R3, R4, R5 = Rules(C3, (1,), ((1,) * 3,)), Rules(C4, (1,), ((-1,) * 4,)), Rules(C5, (2,), ((1,) * 5,))
R22 = Rules(V4, (1, 2), ((1, 1), (2, 2), commutator(1, 2)))
R22_MORE = Rules(V4, (1, 2, 3), ((1, 1), (2, -1, 2, 1), (1, 2, -3), (3, 3), (-2, -2)))
R6_ROUND = Rules(C6, (2, 3), ((1, 1, 1), (2, 2), commutator(1, 2)))
R8D = letters_with(D4, ((1, 1, 1, 1), (2, 2), (1, 2, 1, 2)))[1]
R8Q = letters_with(Q8, ((1, 1, -2, -2), (1, 2, 1, -2)))[1]
R12 = letters_with(A4, ((1, 1), (2, 2, 2), (1, 2) * 3))[1]
R24 = letters_with(S4, ((1, 1), (2, 2, 2), (1, 2) * 4))[1]
# the letter 0 among the letters
R2_NOTHING = Rules(C2, (0, 1), ((1,), (2, 2)))
R3_NOTHING = Rules(C3, (2, 0), ((1, 1, 1), (2, 2), (2,)))
SOME = (R1, R2, R3, R4, R5, R22, R22_MORE, R6, R6_ROUND, R8D, R8Q, R12, R24, R2_NOTHING, R3_NOTHING)
EIGHT = Floor.made(Q8, (0, 4), {1: ((-1, 0), (2, 1)), 4: ((1, 0), (0, 3))})


def floors_for(group):
    """Floors over a group, one that no member moves among them."""
    found = [Floor.still(group, (0,)), Floor.still(group, (6,)), Floor.still(group, (0, 2, 4))]
    known = (Z2, ZS, SWAP, MIXED, TWIST, PLANE, Z3, SIGN, WALL, EIGHT, regular(C4, 2), regular(V4, 0),
             Floor.made(C4, (0, 0), {1: ((0, -1), (1, 0))}), Floor.made(S3, (9,), {1: ((-1,),), 2: ((-1,),)}),
             Floor.made(C6, (8, 0), {1: ((3, 4), (0, 1))}))
    return found + [floor for floor in known if floor.group == group]


def slow_bend(floor, some, word, places):
    """The bend of a word, by its words."""
    total = (0,) * floor.places
    for index in range(len(some.letters)):
        for member, times in slow_slope(some.ruled_group, some.letters, word, index).items():
            total = floor.added(total, floor.repeated(times, floor.moved(member, places[index])))
    return total


def slow_word_values(floor, some, row):
    """The word values of a closed 2-row, by the pairs of a laying."""
    laying = Layering(floor, row)
    zero = (0,) * floor.places
    found = []
    for word in some.words:
        pair = laying.neutral
        for entry in word:
            letter = (zero, some.letters[abs(entry) - 1])
            pair = laying.joined(pair, letter if entry > 0 else laying.undone(letter))
        found.append(floor.added(pair[0], row.get((0, 0), zero)))
    return tuple(found)


def some_places(floor, many, seed):
    """Values, always the same ones for a seed."""
    return tuple(some_row(floor, 0, 9, 100 * seed + at).get((), (0,) * floor.places) for at in range(many))


def some_closed(floor, step, seed):
    """A closed row: a change, and some of the makers where they are told."""
    row = slow_change(floor, step - 1, some_row(floor, step - 1, 5, seed))
    if (floor.group.size - 1) ** (step + 1) * floor.places <= 300:
        for times, maker in enumerate(class_makers(floor, step), seed):
            row = row_sum(floor, step, row, row_times(floor, step, times, maker))
    return row


class RulesTest(Refusals, unittest.TestCase):
    def test_the_example(self):
        self.assertEqual([R6.slope((1, 2, 1, 2), 0), R6.slope((-1, 2, 1), 0), R6.member_of((-1, 2, 1)),
                          rules_list(ZS, R2, 1), rules_list(Floor.still(S3, (0,)), R6, 2)],
                         [{0: 1, 5: 1}, {1: 1, 4: -1}, 5, (2,), (2,)])

    def test_constants_and_properties(self):
        self.assertEqual((rules.MAX_WORDS, rules.MAX_WORD, rules.MAX_RULED), (12, 40, 24))
        self.assertEqual((R6.ruled_group, R6.letters, R6.words), (S3, (3, 2), ((1, 1, 1), (2, 2), (1, 2, 1, 2))))
        with self.assertRaises(TypeError):
            iter(R6)

    def test_equal(self):
        alike = Rules(S3, (3, 2), ((1, 1, 1), (2, 2), (1, 2, 1, 2)))
        self.assertTrue(R6 == alike and not R6 != alike)
        for other in WRONG + (S3, R2, Rules(S3, (4, 2), R6.words), Rules(S3, (3, 2), R6.words[::-1]),
                              Rules(S3, (3, 2), R6.words + ((),)), Rules(Group.round(2), (1,), ((1, 1, 1, 1), (1, 1)))):
            self.assertTrue(R6 != other and not R6 == other)

    def test_words_and_slopes(self):
        for some in SOME:
            source = random.Random(5)
            group, many = some.ruled_group, len(some.letters)
            words = [(), (1,) * 40, (-1,) * 40, (many, -many) * 20, (1, -1, -many, many)] + list(some.words)
            words += [tuple(source.choice((1, -1)) * source.randint(1, many) for _ in range(size)) for size in range(1, 41, 3)]
            for word in words:
                self.assertEqual(some.member_of(word), value_of(group, some.letters, word))
                for index in range(many):
                    found = some.slope(word, index)
                    self.assertEqual(found, slow_slope(group, some.letters, word, index))
                    self.assertEqual(list(found), sorted(found))
        self.assertEqual(R2.slope((1,) * 40, 0), {0: 20, 1: 20})
        self.assertEqual(R2.slope((), 0), {})

    def test_wrong_words(self):
        wrong = WRONG + ((0,), (3,), (-3,), (True,), (1, None), ("1",), (1,) * 41, [1, 2], (1, (2,)), (TOO_LONG,), R6, (R6,),
                         {1: 2}, ((1, 2),))
        for value in wrong:
            self.refused(InvalidOperation, R6.member_of, value)
            self.refused(InvalidOperation, R6.slope, value, None)
        for value in NO_NUMBERS + (-1, 2):
            self.refused_number(R6.slope, value, (1, 2), value)
        self.refused_number(R2.slope, 1, (1,), 1)

    def test_wrong_arguments(self):
        right = ((1, 1, 1), (2, 2), (1, 2, 1, 2))
        no_letters = WRONG + ((), (3,), (3, 3), (3, 2, 3), (1, 2, 3, 4, 5), [3, 2], (True, 2), (3, 6), (3, -1), (3, None), (0,),
                              ("3", 2), ((3,), 2), (TOO_LONG, 2), S3)
        no_words = WRONG + ((), ((1,),), ((1, 2),), right[0], [(1, 1, 1)], ([1, 1, 1],), ((1, 1, True),), ((1, 1, 0),),
                            ((3, 3),), ((1, -3),), right * 4 + ((),), ((1,) * 42,), ((1, None),), (None,), (S3,), S3,
                            right + ((2,),), right + ("",), ((1, TOO_LONG),))
        self.refuse_in_order(Rules, (S3, (3, 2), right), [
            (0, NO_GROUPS, InvalidGroup), (1, no_letters, InvalidOperation), (2, no_words, InvalidOperation)])
        # letters that make the whole group, whichever they are
        self.assertEqual(Rules(S3, (1, 2), ((1, 1), (2, 2), (1, 2, 1, 2, 1, 2))).letters, (1, 2))
        self.refused(InvalidOperation, Rules, S3, (3, 4), ((1, 1, 1),))
        orders = tuple((index + 1,) * S3.order(letter) for index, letter in enumerate((1, 2, 3, 4, 5)))
        alike = ((1, 2, -4), (2, 1, -3), (1, 2, 1, -5))
        for many in (4, 5):
            words = tuple(word for word in orders[:many] + alike[:many - 2] if value_of(S3, (1, 2, 3, 4, 5), word) == 0)
            if many == 4:
                self.assertEqual(Rules(S3, (1, 2, 3, 4), words).letters, (1, 2, 3, 4))
            else:
                self.refused(InvalidOperation, Rules, S3, (1, 2, 3, 4, 5), words)
        # twelve words, and thirteen
        self.assertEqual(len(Rules(S3, (3, 2), right * 4).words), 12)
        self.refused(InvalidOperation, Rules, S3, (3, 2), right * 4 + right[:1])

    def test_many_members(self):
        big = Group.round(25)
        for words in (((1,) * 25,), ((),)):
            self.refused(TooMany, Rules, big, (1,), words, limit=24)
        self.refused(InvalidOperation, Rules, big, (1,), ((1,) * 24,))
        self.refused(InvalidOperation, Rules, big, (5,), ((1,) * 5,))
        self.assertEqual(rules_list(Floor.still(Group.round(24), (0,)), Rules(Group.round(24), (1,), ((1,) * 24,)), 2), (24,))
        self.refused(InvalidOperation, Rules, E32, (1, 2, 4, 8), ((1, 1),))
        # letters of four, words of 40 entries
        four = Rules(C4, (1, 2, 3), ((1,) * 40, (1, 1, -2), (1, 2, -3), (1, 1, 1, 1)))
        self.assertEqual(rules_list(Floor.still(C4, (0, 2)), four, 1), class_list(Floor.still(C4, (0, 2)), 1))

    def test_full(self):
        full = Refused, Rules
        self.refused(*full, C2, (1,), ((1, 1, 1, 1),), reason=("full",))
        self.refused(*full, C2, (1,), ((),), reason=("full",))
        self.refused(*full, C4, (1,), ((1,) * 8, (1,) * 12, ())[:1], reason=("full",))
        # a group of six is not told by rules that a greater one has
        self.refused(*full, C1, (0,), ((1, 1),), reason=("full",))
        for left_out in range(3):
            words = R6.words[:left_out] + R6.words[left_out + 1:]
            self.refused(*full, S3, (3, 2), words, reason=("full",))
            words = R22.words[:left_out] + R22.words[left_out + 1:]
            self.refused(*full, V4, (1, 2), words, reason=("full",))
        self.refused(*full, S4, R24.letters, R24.words[:2], reason=("full",))
        # eight and twelve turns, of which four are 0 alone
        self.assertEqual(Rules(C4, (1,), ((1,) * 8, (-1,) * 12)).words, ((1,) * 8, (-1,) * 12))
        # doubled rules, and further ones
        for some in (R2, R6, R22, R8Q, R12):
            many = some.words + some.words
            self.assertEqual(Rules(some.ruled_group, some.letters, many[:12]).words, many[:12])
            more = tuple(word + (1, -1) for word in some.words) + ((), (1, -1)) + some.words
            self.assertEqual(Rules(some.ruled_group, some.letters, more[:12]).words, more[:12])

    def test_full_by_loops(self):
        # each loop is to be a sum of moved bundles of rules
        for some in SOME:
            if some.ruled_group.size <= 12:
                rows, many = at_ways(some.ruled_group, some.letters, some.words)
                self.assertEqual(ones_of(rows), (many, many))

    def test_drawn_rules(self):
        told = {True: 0, False: 0}
        for at, group in enumerate((C1, C2, C3, V4, C4, S3, C6)):
            source = random.Random(at)
            for _ in range(25):
                letters = tuple(source.sample(range(group.size), min(group.size, source.randint(1, 3))))
                try:
                    words = some_words(source, group, letters, 12)
                    some = Rules(group, letters, words)
                except InvalidOperation:
                    continue
                except Refused as error:
                    self.assertEqual(error.reason, ("full",))
                    some = None
                rows, many = at_ways(group, letters, words)
                self.assertEqual(some is not None, ones_of(rows) == (many, many))
                told[some is None] += 1
                if some is not None:
                    for floor in floors_for(group)[:4]:
                        x = some_places(floor, len(letters), 3)
                        values = tuple(slow_bend(floor, some, word, x) for word in words)
                        row = row_of_values(floor, some, values)
                        self.assertEqual(word_values(floor, some, row), values)
                        if (group.size - 1) ** 3 * floor.places <= 300:
                            self.assertEqual(rules_list(floor, some, 2), class_list(floor, 2))
                        self.assertEqual(rules_list(floor, some, 1), rules_list(floor, Rules(group, letters, words[::-1]), 1))
        self.assertGreater(min(told.values()), 15)

    def test_many_drawn_rules(self):
        # four letters of 24 members and long words: what they have at ways is told in short integers
        for at, group in enumerate((S4, Group.both(A4, C2), Group.both(D4, C3))):
            source, found = random.Random(at), 0
            while found < 2:
                letters = tuple(source.sample(range(1, group.size), 4))
                try:
                    some = Rules(group, letters, some_words(source, group, letters, 12) + tuple(
                        word for word in short_words(group, letters)))
                except (InvalidOperation, Refused):
                    continue
                found += 1
                floor = Floor.still(group, (0, 6))
                self.assertEqual(rules_list(Floor.still(group, (0,)), some, 2), made_commuting(group))
                x = tuple((source.randint(-10 ** 57, 10 ** 57), source.randrange(6)) for _ in letters)
                values = tuple(slow_bend(floor, some, word, x) for word in some.words)
                row = row_of_values(floor, some, values)
                # it is a change: of a row with these values, which are told by its sums
                sums = slow_sums(Floor.still(group, (0,)), {members: value[:1] for members, value in row.items() if value[0]})
                self.assertEqual(slow_change(Floor.still(group, (0,)), 1, sums),
                                 {members: (24 * value[0],) for members, value in row.items() if value[0]})


def short_words(group, letters):
    """Few short words that are 0."""
    found = [(i + 1,) * group.order(letter) for i, letter in enumerate(letters)]
    return found[:12]


def ones_of(rows):
    """The rank of some rows, and how many of the least leads that their sums have are 1."""
    rows, leads = [list(row) for row in rows if any(row)], []
    for column in range(len(rows[0]) if rows else 0):
        while True:
            having = [row for row in rows if row[column]]
            if len(having) <= 1:
                break
            low = min(having, key=lambda row: abs(row[column]))
            for row in having:
                if row is not low:
                    times = row[column] // low[column]
                    row[:] = [entry - times * top for entry, top in zip(row, low)]
        for row in having:
            leads.append(abs(row[column]))
            rows.remove(row)
    return len(leads), leads.count(1)


def at_ways(group, letters, words):
    """All moved rules, asked where a tree of the members leaves pairs out, by their words."""
    reached, used = {0}, set()
    while len(reached) < group.size:
        member, index = next((member, index) for member in sorted(reached) for index in range(len(letters))
                             if group.product(member, letters[index]) not in reached)
        reached.add(group.product(member, letters[index]))
        used.add((index, member))
    ways = [(index, member) for index in range(len(letters)) for member in group if (index, member) not in used]
    rows = []
    for word in words:
        slopes = [slow_slope(group, letters, word, index) for index in range(len(letters))]
        rows += [[slopes[i].get(group.product(group.inverse(h), g), 0) for i, g in ways] for h in group]
    return rows, len(ways)


def some_words(source, group, letters, longest):
    """Words that are 0, drawn at first, and then led back to 0."""
    found = []
    while len(found) < source.randint(1, 12):
        word = [source.choice((1, -1)) * source.randint(1, len(letters)) for _ in range(source.randint(0, longest))]
        for _ in range(200):
            if value_of(group, letters, word) == 0:
                break
            word.append(source.choice((1, -1)) * source.randint(1, len(letters)))
        if len(word) <= 40 and value_of(group, letters, word) == 0:
            found.append(tuple(word))
    return tuple(found)


class CrossedTest(Refusals, unittest.TestCase):
    def test_crossed_rows(self):
        told = {True: 0, False: 0}
        for some in SOME:
            group = some.ruled_group
            for floor in floors_for(group):
                tried = [some_places(floor, len(some.letters), seed) for seed in range(3)]
                x = some_places(floor, 1, 7)[0]
                tried.append(tuple(floor.subtracted(floor.moved(t, x), x) for t in some.letters))
                if group.size <= 6:
                    for maker in class_makers(floor, 1) if (group.size - 1) ** 2 * floor.places <= 300 else ():
                        tried.append(tuple(maker.get((t,), (0,) * floor.places) for t in some.letters))
                for places in tried:
                    found = crossed_row(floor, some, places)
                    bends = [slow_bend(floor, some, word, places) for word in some.words]
                    self.assertEqual(found is None, any(any(bend) for bend in bends))
                    told[found is None] += 1
                    if found is not None:
                        self.assertTrue(is_closed(floor, 1, found))
                        self.assertEqual(list(found), sorted(found))
                        for letter, value in zip(some.letters, places):
                            self.assertEqual(found.get((letter,), (0,) * floor.places), value)
                # a change of x
                found = crossed_row(floor, some, tried[3])
                self.assertEqual(found, change(floor, 0, {(): x} if any(x) else {}))
        self.assertGreater(min(told.values()), 30)

    def test_all_crossed_rows(self):
        # over finite floors: as many as there are closed 1-rows
        for some, floor in ((R2, TWIST), (R3, Z3), (R22, Floor.still(V4, (2,))), (R6, Floor.still(S3, (6,))),
                            (R22_MORE, Floor.still(V4, (4,)))):
            group = floor.group
            values = values_of(floor)
            closed = set()
            for entries in product(values, repeat=group.size):
                if all(entries[group.product(g, h)] == floor.added(entries[g], floor.moved(g, entries[h]))
                       for g in group for h in group) if len(values) ** group.size < 5000 else False:
                    closed.add(entries)
            found = set()
            for places in product(values, repeat=len(some.letters)):
                row = crossed_row(floor, some, places)
                if row is not None:
                    found.add(tuple(row.get((g,), (0,) * floor.places) for g in group))
            if len(values) ** group.size < 5000:
                self.assertEqual(found, closed)

    def test_wrong_arguments(self):
        for call, more in ((crossed_row, (((1,),),)), (word_values, ({},)), (row_of_values, (((0,),),)), (rules_list, (1,))):
            wrong = {crossed_row: ((2, tuple((value,) for value in wrong_values(ZS)) + NO_PLACES, InvalidRow),),
                     word_values: ((2, wrong_rows(ZS, 2), InvalidRow),),
                     row_of_values: ((2, tuple((value,) for value in wrong_values(ZS)) + NO_PLACES, InvalidRow),),
                     rules_list: ((2, NO_NUMBERS + (0, 3, -1), InvalidNumber),)}[call]
            self.refuse_in_order(call, (ZS, R2) + more, [
                (0, NO_FLOORS, InvalidFloor), (1, WRONG + (C2, R3, R6, "R2"), InvalidOperation)] + list(wrong))
        for value in WRONG + (C2, ZS):
            self.refused(InvalidOperation, is_identity, value, None)

    def test_sixty_digits(self):
        great = Floor.made(C2, (0, 0), {1: ((1, 10 ** 30), (0, -1))})
        some = Rules(C2, (1, 0), ((1, 1), (2,)))
        # a crossed row with the value x at 1, where no other member has a value
        self.assertEqual(crossed_row(great, some, ((0, 7), (0, 0))), None)
        x = (-5 * 10 ** 29 * 3, 3)
        self.assertEqual(crossed_row(great, R2, (x,)), {(1,): x})
        plane = Floor.made(C3, (0, 0), {1: ((0, -1), (1, -1))})
        far = (LONGEST, LONGEST)
        self.assertEqual(crossed_row(plane, R3, ((LONGEST, 0),)), {(1,): (LONGEST, 0), (2,): far})
        self.refused(TooMany, crossed_row, plane, R3, ((LONGEST, -LONGEST),), limit=60)
        still = Floor.still(C2, (0,))
        self.assertIsNone(crossed_row(still, R2, ((LONGEST,),)))


NO_PLACES = WRONG + ((), (1,), ((1,), (1,)), [(1,)], ((1,), None), R2, {0: (1,)})


class ValuesTest(Refusals, unittest.TestCase):
    def test_word_values(self):
        for some in SOME:
            if some.ruled_group.size > 8:
                continue
            for floor in floors_for(some.ruled_group):
                for seed in range(2):
                    row = some_closed(floor, 2, seed)
                    self.assertEqual(word_values(floor, some, row), slow_word_values(floor, some, row))
                    self.assertEqual(word_values(floor, some, {}), ((0,) * floor.places,) * len(some.words))

    def test_rows_with_values(self):
        told = {True: 0, False: 0}
        for some in SOME:
            group = some.ruled_group
            for floor in floors_for(group):
                tried = [some_places(floor, len(some.words), seed) for seed in range(2)]
                if group.size <= 8:
                    tried.append(word_values(floor, some, some_closed(floor, 2, 3)))
                x = some_places(floor, len(some.letters), 4)
                tried.append(tuple(slow_bend(floor, some, word, x) for word in some.words))
                for values in tried:
                    row = row_of_values(floor, some, values)
                    told[row is None] += 1
                    if row is not None and group.size <= 17:
                        self.assertTrue(is_row(floor, 2, row) and is_closed(floor, 2, row))
                        self.assertEqual(word_values(floor, some, row), values)
                        self.assertEqual(list(row), sorted(row))
                for values in tried[2:]:
                    self.assertIsNotNone(row_of_values(floor, some, values))
                if group.size <= 12:
                    # bends alone: a change
                    self.assertIsNotNone(source_of(floor, 2, row_of_values(floor, some, tried[-1])))
        self.assertGreater(min(told.values()), 20)

    def test_classes_by_word_values(self):
        for some in (R2, R3, R4, R22, R22_MORE, R6, R8Q, R2_NOTHING, R3_NOTHING):
            for floor in floors_for(some.ruled_group):
                if not floor.is_finite or floor.floor_size ** len(some.letters) > 300:
                    continue
                bends = {tuple(slow_bend(floor, some, word, x) for word in some.words)
                         for x in product(values_of(floor), repeat=len(some.letters))}
                one, other = some_closed(floor, 2, 1), some_closed(floor, 2, 2)
                left, right = word_values(floor, some, one), word_values(floor, some, other)
                difference = tuple(floor.subtracted(x, y) for x, y in zip(left, right))
                self.assertIs(are_one_class(floor, 2, one, other), difference in bends)

    def test_all_values(self):
        # values are those of a row exactly if all identities take them to 0; there are as many lots of them as classes
        for some in (R2, R3, R4, R22, R6, R2_NOTHING):
            for floor in (Floor.still(some.ruled_group, (2,)), Floor.still(some.ruled_group, (4,)) if some in (R2, R4) else
                          Floor.still(some.ruled_group, (3,))):
                values = values_of(floor)
                known = [told for told in product(values, repeat=len(some.words))
                         if row_of_values(floor, some, told) is not None]
                bends = {tuple(slow_bend(floor, some, word, x) for word in some.words)
                         for x in product(values, repeat=len(some.letters))}
                many = 1
                for size in rules_list(floor, some, 2):
                    many *= size
                self.assertEqual(len(known), many * len(bends))
                identities = some_identities(some)
                wanted = [told for told in product(values, repeat=len(some.words))
                          if all(not any(identity_value(floor, identity, told)) for identity in identities)]
                self.assertEqual(known, wanted)

    def test_identities(self):
        for some in (R2, R3, R4, R22, R6, R8Q, R2_NOTHING):
            group = some.ruled_group
            source = random.Random(2)
            right = some_identities(some)
            self.assertTrue(right or some is R1)
            for identity in right:
                self.assertIs(is_identity(some, identity), True)
                moved = {(w, group.product(3 % group.size, h)): times for (w, h), times in identity.items()}
                self.assertIs(is_identity(some, moved), True)
            for _ in range(60):
                value = {(source.randrange(len(some.words)), source.randrange(group.size)): source.choice((-2, -1, 1, 2))
                         for _ in range(source.randint(1, 4))}
                self.assertIs(is_identity(some, value), slow_identity(some, value))
        self.assertIs(is_identity(R2, {}), True)
        self.assertIs(is_identity(R2, {(0, 0): 1, (0, 1): -1}), True)
        self.assertIs(is_identity(R2, {(0, 0): LONGEST, (0, 1): -LONGEST}), True)
        for value in WRONG + ({(0, 0): 1}, {(0, 0): 0}, {(0, 0): 1, (0, 1): -1, (0, 2): 1}, {(0, 0): True, (0, 1): -1},
                              {(0, 0): TOO_LONG, (0, 1): -TOO_LONG}, {(1, 0): 1, (1, 1): -1}, {(-1, 0): 1, (-1, 1): -1},
                              {(False, 0): 1, (False, 1): -1}, {(0, False): 1, (0, True): -1}, {0: 1, 1: -1}, {(0,): 1},
                              {(0, 0, 0): 1}, {"00": 1}, [(0, 0)], ((0, 0),), {(0, None): 1}, {(0, 0): None, (0, 1): 1},
                              {(0, 0): (1,), (0, 1): 1}, C2, R2):
            if value != {}:
                self.assertIs(is_identity(R2, value), False)
        # a doubled rule, once each way
        twice = Rules(C2, (1,), ((1, 1), (1, 1)))
        self.assertIs(is_identity(twice, {(0, 0): 1, (1, 0): -1}), True)
        self.assertIs(is_identity(twice, {(0, 0): 1, (1, 1): -1}), True)
        self.assertIs(is_identity(twice, {(0, 0): 1, (1, 0): 1}), False)

    def test_many_members(self):
        still = Floor.still(S4, (0,))
        self.refused(TooMany, word_values, still, R24, {(1, 1): (1,)}, limit=5000)
        self.refused(InvalidRow, word_values, still, R24, {(1,): (1,)})
        bends = tuple(slow_bend(still, R24, word, ((3,), (-4,))) for word in R24.words)
        row = row_of_values(still, R24, bends)
        # it is the change of a row with these values at the letters
        source = slow_sums(still, row)
        self.assertEqual(slow_change(still, 1, source), {key: (24 * value[0],) for key, value in row.items()})
        self.refused(Refused, word_values, ZS, R2, {(0, 1): (1,)}, reason=("open",))
        seventeen = Group.round(17)
        some = Rules(seventeen, (1,), ((1,) * 17,))
        self.assertEqual(word_values(Floor.still(seventeen, (0,)), some, {}), ((0,),))
        eighteen = Group.round(18)
        some = Rules(eighteen, (1,), ((1,) * 18,))
        self.refused(TooMany, word_values, Floor.still(eighteen, (0,)), some, {}, limit=5000)

    def test_sixty_digits(self):
        still = Floor.still(C2, (0,))
        self.assertEqual(word_values(still, R2, row_of_values(still, R2, ((LONGEST,),))), ((LONGEST,),))
        three = Floor.still(C3, (0,))
        for value in (LONGEST, -LONGEST):
            row = row_of_values(three, R3, ((value,),))
            self.assertEqual(word_values(three, R3, row), ((value,),))
        six = Floor.still(S3, (0,))
        x = ((3 * 10 ** 59,), (-3 * 10 ** 59,))
        values = tuple(slow_bend(six, R6, word, x) for word in R6.words)
        row = row_of_values(six, R6, values)
        self.assertEqual(word_values(six, R6, row), values)
        # over this floor what a row has at other members grows beyond all digits
        great = Floor.made(C2, (0, 0), {1: ((1, 10 ** 59), (0, -1))})
        values = (slow_bend(great, R2, (1, 1), ((3, 4),)),)
        self.assertEqual(values, ((4 * 10 ** 59 + 6, 0),))
        self.assertEqual(word_values(great, R2, row_of_values(great, R2, values)), values)
        self.assertIsNone(row_of_values(great, R2, ((0, 1),)))

    def test_rows_that_are_kept_short(self):
        # the row that follows a tree of the members has longer integers than another one of its class
        many = 0
        for at, some in enumerate((R22, R6, R6_ROUND, R8D, R8Q, R12)):
            source, floor = random.Random(at), Floor.still(some.ruled_group, (0,))
            for _ in range(30):
                x = tuple((source.randint(-LONGEST, LONGEST) // 3,) for _ in some.letters)
                totals = [sum(times * x[index][0] for index in range(len(x))
                              for times in slow_slope(some.ruled_group, some.letters, word, index).values()) for word in some.words]
                if max(abs(total) for total in totals) > LONGEST:
                    continue
                values = tuple((total,) for total in totals)
                self.assertEqual(word_values(floor, some, row_of_values(floor, some, values)), values)
                many += 1
        self.assertGreater(many, 60)

    def test_not_true(self):
        one, other = {}, slow_change(ZS, 1, {(0,): (1,)})
        self.assertNotEqual(one, other)
        self.assertEqual(word_values(ZS, R2, one), word_values(ZS, R2, other))
        self.assertIsNone(row_of_values(ZS, R2, ((1,),)))


def slow_sums(floor, row):
    """The sums of a 2-row over its last member."""
    found = {}
    for (one, _), value in row.items():
        found[(one,)] = floor.added(found.get((one,), (0,) * floor.places), value)
    return {key: value for key, value in found.items() if any(value)}


def slow_identity(some, value):
    """Whether moved bundles of rules add up to 0, by their words."""
    group, total = some.ruled_group, {}
    for (w, h), times in value.items():
        for index in range(len(some.letters)):
            for member, k in slow_slope(group, some.letters, some.words[w], index).items():
                spot = (index, group.product(h, member))
                total[spot] = total.get(spot, 0) + k * times
    return not any(total.values())


def some_identities(some):
    """All identities with at most three small integers, or enough of them: a lot that tells all others for these rules."""
    group = some.ruled_group
    spots = [(w, h) for w in range(len(some.words)) for h in group]
    bundles = {}
    for w, h in spots:
        line = {}
        for index in range(len(some.letters)):
            for member, k in slow_slope(group, some.letters, some.words[w], index).items():
                line[(index, group.product(h, member))] = k
        bundles[(w, h)] = line
    return kernel_of(bundles)


def kernel_of(bundles):
    """A base of all integer sums of lines that are 0, by working the lines off one another."""
    lines = [(dict(line), {key: 1}) for key, line in bundles.items()]
    found, spots = [], sorted({spot for line, _ in lines for spot in line})
    for spot in spots:
        while True:
            having = [at for at, (line, _) in enumerate(lines) if line.get(spot)]
            if len(having) <= 1:
                break
            low = min(having, key=lambda at: abs(lines[at][0][spot]))
            for at in having:
                if at != low:
                    times = lines[at][0][spot] // lines[low][0][spot]
                    for side in (0, 1):
                        for key, entry in lines[low][side].items():
                            lines[at][side][key] = lines[at][side].get(key, 0) - times * entry
        if having:
            lines.pop(having[0])
    for line, told in lines:
        assert not any(line.values())
        found.append({key: times for key, times in told.items() if times})
    return [identity for identity in found if identity]


def identity_value(floor, identity, values):
    """The sum of all k h v, k at the rule of v and h."""
    total = (0,) * floor.places
    for (w, h), times in identity.items():
        total = floor.added(total, floor.repeated(times, floor.moved(h, values[w])))
    return total


class ListTest(Refusals, unittest.TestCase):
    def test_lists(self):
        many = 0
        for some in SOME:
            for floor in floors_for(some.ruled_group):
                for step in (1, 2):
                    found = rules_list(floor, some, step)
                    if (some.ruled_group.size - 1) ** (step + 1) * floor.places <= 300:
                        self.assertEqual(found, class_list(floor, step))
                        many += 1
        self.assertGreater(many, 60)

    def test_lists_by_other_roads(self):
        for some in SOME:
            group = some.ruled_group
            still = Floor.still(group, (0,))
            self.assertEqual(rules_list(still, some, 1), ())
            self.assertEqual(rules_list(still, some, 2), made_commuting(group))
        for some in (R2, R3, R4, R5, R6, R8Q):
            self.assertEqual(rules_list(Floor.still(some.ruled_group, (0,)), some, 2), list_again(some.ruled_group, 2))
        for some in (R2, R3, R4, R5):
            ladder = round_ladder(some.ruled_group, 1, 3)
            for floor in floors_for(some.ruled_group):
                for step in (1, 2):
                    self.assertEqual(rules_list(floor, some, step), ladder_list(ladder, floor, step))
        ladder = bar_ladder(D4, 2)
        for floor in floors_for(D4):
            self.assertEqual(rules_list(floor, R8D, 1), ladder_list(ladder, floor, 1))

    def test_lists_by_other_rules(self):
        for group, one, other in ((V4, R22, R22_MORE), (C2, R2, R2_NOTHING), (C3, R3, R3_NOTHING), (C6, R6_ROUND, Rules(
                C6, (1,), ((1,) * 6,))), (S3, R6, Rules(S3, (1, 2), ((1, 1), (2, 2), (1, 2, 1, 2, 1, 2)))),
                (E8, Rules(E8, (1, 2, 4), ((1, 1), (2, 2), (3, 3), commutator(1, 2), commutator(1, 3), commutator(2, 3))),
                 Rules(E8, (1, 2, 4, 7), ((1, 1), (2, 2), (3, 3), commutator(1, 2), commutator(1, 3), commutator(2, 3),
                                          (1, 2, 3, 4))))):
            for floor in floors_for(group):
                for step in (1, 2):
                    self.assertEqual(rules_list(floor, one, step), rules_list(floor, other, step))
        self.assertEqual(rules_list(Floor.still(E8, (2,)), Rules(E8, (1, 2, 4), (
            (1, 1), (2, 2), (3, 3), commutator(1, 2), commutator(1, 3), commutator(2, 3))), 2), (2,) * 6)

    def test_orders_of_classes(self):
        for some in (R2, R4, R22, R6):
            for floor in floors_for(some.ruled_group):
                if (some.ruled_group.size - 1) ** 3 * floor.places <= 300:
                    rows = class_makers(floor, 2)
                    self.assertEqual(tuple(class_order(floor, 2, row) for row in rows), rules_list(floor, some, 2))
                    for row in rows:
                        back = row_of_values(floor, some, word_values(floor, some, row))
                        self.assertTrue(are_one_class(floor, 2, row, back))
                        self.assertIsNotNone(source_of(floor, 2, row_difference(floor, 2, row, back)))

    def test_one_member(self):
        for rests in ((0,), (2, 0), (4, 4)):
            floor = Floor.still(C1, rests)
            self.assertEqual([rules_list(floor, R1, 1), rules_list(floor, R1, 2)], [(), ()])
            value = some_places(floor, 1, 3)[0]
            self.assertEqual(word_values(floor, R1, row_of_values(floor, R1, (value,))), (value,))
            self.assertEqual(crossed_row(floor, R1, ((0,) * len(rests),)), {})


if __name__ == "__main__":
    unittest.main()
