"""Words in some letters, their bundles, and the loops of the letters as sums of moved bundles of rules.

A bundle is a dict from pairs of the index of a letter and a member to integers other than 0.
"""

from groupsover.base.equations import Solver


def bundle_of(group, letters, word):
    """The slopes of a word at all letters together."""
    products, inverses = group.all_products, group.all_inverses
    found, member = {}, 0
    for entry in word:
        at = abs(entry) - 1
        if entry < 0:
            member = products[member][inverses[letters[at]]]
        found[(at, member)] = found.get((at, member), 0) + (1 if entry > 0 else -1)
        if entry > 0:
            member = products[member][letters[at]]
    return {spot: found[spot] for spot in sorted(found) if found[spot]}


def member_of_word(group, letters, word):
    """The product of the letters and inverses of a word from left to right."""
    member = 0
    for entry in word:
        letter = letters[abs(entry) - 1]
        member = group.all_products[member][letter if entry > 0 else group.all_inverses[letter]]
    return member


def tree_of_letters(group, letters):
    """For each member but 0, near ones first, the index of a letter and the member that it leads on to it."""
    found, queue = {}, [0]
    reached = {0: True}
    at = 0
    while at < len(queue):
        for index, letter in enumerate(letters):
            further = group.all_products[queue[at]][letter]
            if further not in reached:
                reached[further] = True
                found[further] = (index, queue[at])
                queue.append(further)
        at += 1
    return found


class Loops:
    """The loops of some letters that make a group, and the bundles of some rules.

    A tree leads from 0 to each member. Each loop is told by its integers at the ways, which are the
    pairs of a letter and a member that the tree leaves out; for each way there is a loop of 1 there alone.
    `told_shares` has for each way how many of each moved bundle add up to this loop, None if they cannot.
    """

    def __init__(self, group, letters, bundles):
        self.tree = tree_of_letters(group, letters)
        used = {self.tree[member]: True for member in self.tree}
        pairs = [(at, member) for at in range(len(letters)) for member in range(group.size)]
        self.ways = [pair for pair in pairs if pair not in used]
        self.index_of = {way: at for at, way in enumerate(self.ways)}
        self.told_moved = [self.told_at(moved_bundle(group, bundle, member))
                      for bundle in bundles for member in range(group.size)]
        lines = [{} for _ in self.ways]
        for unknown, told in enumerate(self.told_moved):
            for at in told:
                lines[at][unknown] = told[at]
        many = len(self.ways)
        solver = Solver((0,) * many, lines, len(self.told_moved), [{at: 1} for at in range(many)])
        found = [solver.solved({at: 1}) for at in range(many)]
        self.told_shares = [None if one is None else {at: entry for at, entry in enumerate(one) if entry}
                            for one in found]

    def told_at(self, bundle):
        """The integers of a bundle at the ways, by their indices."""
        return {self.index_of[spot]: bundle[spot] for spot in bundle if spot in self.index_of}

    def are_full(self):
        """Whether each loop is a sum of moved bundles."""
        return None not in self.told_shares

    def idle_sums(self):
        """How many of each moved bundle add up to 0; all such are sums of these."""
        found = []
        for unknown, told in enumerate(self.told_moved):
            # a moved bundle, less the sum that stands for its loop
            left = {unknown: 1}
            for at in told:
                share = self.told_shares[at]
                for other in share:
                    left[other] = left.get(other, 0) - told[at] * share[other]
            left = {other: left[other] for other in left if left[other]}
            if left:
                found.append(left)
        return found


def moved_bundle(group, bundle, member):
    """A bundle moved by a member."""
    products = group.all_products[member]
    return {(at, products[inner]): bundle[(at, inner)] for at, inner in bundle}
