"""Words in some letters, their bundles, and the loops of the letters.

A bundle is a dict from pairs of the index of a letter and a member to integers other than 0.
"""

from groupsover.base.echelon import Span
from groupsover.base.groups import few_makers
from groupsover.base.sparse import are_steps_one

# a prime below 2 ** 61, modulo which whole numbers are told digit by digit
GREAT_PRIME = 2305843009213693951


def bundle_of(group, letters, word):
    """The slopes of a word at all letters together."""
    products, inverses = group.all_products, group.all_inverses
    found, member = {}, 0
    for entry in word:
        at = abs(entry) - 1
        if entry < 0:
            member = products[member][inverses[letters[at]]]
        found[(at, member)] = found.get((at, member), 0) + (1 if entry > 0 else -1)
        if entry > 0:
            member = products[member][letters[at]]
    return tidy_bundle(found)


def tidy_bundle(bundle):
    """A bundle with ascending pairs and without those that it has no times."""
    return {spot: bundle[spot] for spot in sorted(bundle) if bundle[spot]}


def moved_bundle(group, bundle, member):
    """A bundle moved by a member."""
    products = group.all_products[member]
    return {(at, products[inner]): bundle[(at, inner)] for at, inner in bundle}


def member_of_word(group, letters, word):
    """The product of the letters and inverses of a word from left to right."""
    member = 0
    for entry in word:
        letter = letters[abs(entry) - 1]
        member = group.all_products[member][letter if entry > 0 else group.all_inverses[letter]]
    return member


def tree_of_letters(group, letters):
    """For each member but 0, near ones first, the index of a letter and the member that it leads on to it."""
    found, queue = {}, [0]
    reached = {0: True}
    at = 0
    while at < len(queue):
        for index, letter in enumerate(letters):
            further = group.all_products[queue[at]][letter]
            if further not in reached:
                reached[further] = True
                found[further] = (index, queue[at])
                queue.append(further)
        at += 1
    return found


class Loops:
    """The loops of some letters that make a group, and the bundles of some rules.

    A tree leads from 0 to each member. A loop is told by its integers at the ways, which are the pairs
    of a letter and a member that the tree leaves out; for each way there is a loop with 1 there alone.
    `told_moved` has the bundle of each rule, moved by each member, by its integers at the ways.
    """

    def __init__(self, group, letters, bundles):
        self.group_of_loops = group
        self.told_letters = letters
        self.tree = tree_of_letters(group, letters)
        used = {self.tree[member]: True for member in self.tree}
        pairs = [(at, member) for at in range(len(letters)) for member in range(group.size)]
        self.ways = [pair for pair in pairs if pair not in used]
        self.index_of = {way: at for at, way in enumerate(self.ways)}
        self.told_moved = [self.told_at(moved_bundle(group, bundle, member))
                           for bundle in bundles for member in range(group.size)]

    def told_at(self, bundle):
        """The integers of a bundle at the ways, by their indices."""
        return {self.index_of[spot]: bundle[spot] for spot in bundle if spot in self.index_of}

    def are_full(self):
        """Whether each loop is a sum of moved bundles."""
        return are_steps_one(self.told_moved, len(self.ways))

    def loop_at(self, way):
        """The bundle of the loop with 1 at a way alone."""
        at, member = way
        found = {way: 1}
        goal = self.group_of_loops.all_products[member][self.told_letters[at]]
        for start, times in ((member, 1), (goal, -1)):
            last = start
            while last:
                step = self.tree[last]
                found[step] = found.get(step, 0) + times
                last = step[1]
        return tidy_bundle(found)

    def moved_loops(self):
        """Few makers, each beside the index of each way, and beside the loop there, moved, by its integers at ways."""
        group = self.group_of_loops
        loops = [self.loop_at(way) for way in self.ways]
        return [(maker, at, self.told_at(moved_bundle(group, loop, maker)))
                for maker in few_makers(group) for at, loop in enumerate(loops)]

    def moved_equations(self):
        """For each way and each of few makers that the value of the moved loop, less the moved value, is 0.

        These are rows of sums: dicts from the indices of ways to sums of members.
        """
        found = []
        for maker, way, told in self.moved_loops():
            row = {at: {0: told[at]} for at in told}
            cell = row.setdefault(way, {})
            cell[maker] = cell.get(maker, 0) - 1
            found.append({at: row[at] for at in row if any(list(row[at].values()))})
        return found

    def moved_less(self):
        """For each way its loop, moved by each of few makers, less the loop, by its integers at ways."""
        sums = [{at: sum(list(row[at].values())) for at in row} for row in self.moved_equations()]
        return [{at: line[at] for at in line if line[at]} for line in sums]

    def span_for(self, rest):
        """What the ways have in all moved bundles, modulo a rest, or modulo a great prime if this is 0."""
        columns = [{} for _ in self.ways]
        for row, told in enumerate(self.told_moved):
            for at in told:
                columns[at][row] = told[at]
        return Span(columns, rest or GREAT_PRIME)

    def solved(self, span, rest, wanted):
        """The integers at the ways with which each moved bundle comes to what is wanted, None if there are none.

        They are reckoned modulo the rest, if this is not 0. Where the loops are sums of the moved bundles,
        there are no others, so whole numbers come of their rests modulo a great prime and its powers.
        """
        if rest:
            return span.shares({row: entry for row, entry in enumerate(wanted) if entry})
        found, scale, left = [0] * len(self.ways), 1, list(wanted)
        while any(left):
            shares = span.shares({row: entry for row, entry in enumerate(left) if entry})
            if shares is None:
                return None
            near = [share - GREAT_PRIME if 2 * share > GREAT_PRIME else share for share in shares]
            found = [entry + scale * share for entry, share in zip(found, near)]
            left = [(entry - sum([told[at] * near[at] for at in told])) // GREAT_PRIME
                    for entry, told in zip(left, self.told_moved)]
            scale = scale * GREAT_PRIME
        return found
