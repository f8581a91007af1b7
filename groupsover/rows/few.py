"""Few tuples by which the classes of closed rows are told.

Each member has a word: few makers whose product it is, as few and then as early ones as can be. A tuple is
kept if it begins with a maker, and if each further member is the least beginning of its word that makes no
word behind the word of the member ahead. All other tuples go in pairs: in the longer one a member of the
shorter one is split into a beginning of its word and the rest. Changes let each row be 0 at all longer ones;
that its own change is 0 there tells what it has at the shorter ones. So closed rows are told by their values
at kept tuples, and it is enough that their changes are 0 at kept tuples, too.
"""

from math import gcd

from groupsover.base.groups import few_makers
from groupsover.base.middles import list_between
from groupsover.base.reckoning import multiple_of


def words_of(group, makers):
    """The word of each member, near ones first."""
    found, queue, at = {0: ()}, [0], 0
    while at < len(queue):
        for maker in makers:
            further = group.all_products[queue[at]][maker]
            if further not in found:
                found[further] = found[queue[at]] + (maker,)
                queue.append(further)
        at += 1
    return found


class FewTuples:
    """The kept tuples of a group, and what rows have at other tuples by their values at kept ones.

    This is told by a dict from pairs of a kept tuple and a member to how many times the value at the tuple,
    moved by the member, is taken.
    """

    def __init__(self, group):
        self.few_over = group
        self.first_makers = [maker for maker in few_makers(group) if maker]
        self.word_of = words_of(group, self.first_makers)
        self.with_word = {self.word_of[member]: member for member in self.word_of}
        self.told = {(): {((), 0): 1}}

    def least_start(self, ahead, member):
        """The least beginning of a member that makes no word behind the one ahead, None if there is none."""
        start, word = self.word_of[ahead], self.word_of[member]
        for many in range(1, len(word) + 1):
            if start + word[:many] not in self.with_word:
                return self.with_word[word[:many]]
        return None

    def kept_tuples(self, step):
        """The kept tuples for a step."""
        found = [(maker,) for maker in self.first_makers] if step else [()]
        others = list(self.word_of)[1:]
        for _ in range(step - 1):
            found = [known + (member,) for known in found for member in others
                     if self.least_start(known[-1], member) == member]
        return found

    def split_spot(self, members):
        """The index of the member that is split in the longer tuple, and its beginning.

        The index is None for tuples that are not split: the beginning is 0 for kept ones, and None for longer ones.
        """
        if members[0] not in self.first_makers:
            return 0, self.word_of[members[0]][0]
        for at in range(1, len(members)):
            start = self.least_start(members[at - 1], members[at])
            if start is None:
                return None, None
            if start != members[at]:
                return at, start
        return None, 0

    def change_parts(self, members):
        """The parts of the change at a tuple: a member that moves, a tuple that is asked, and how many times.

        Tuples that have a 0 are left out, as rows can be 0 there.
        """
        products = self.few_over.all_products
        found = [(members[0], members[1:], 1), (0, members[:-1], 1 if len(members) % 2 == 0 else -1)]
        for at in range(len(members) - 1):
            member = products[members[at]][members[at + 1]]
            if member:
                found.append((0, members[:at] + (member,) + members[at + 2:], 1 if at % 2 else -1))
        return found

    def parts_at(self, members, at, start):
        """The parts of what a row has at a tuple, by the change at the longer one, which is 0."""
        rest = self.few_over.all_products[self.few_over.all_inverses[start]][members[at]]
        sign = -1 if at % 2 else 1
        return [(member, part, sign * times)
                for member, part, times in self.change_parts(members[:at] + (start, rest) + members[at + 1:])
                if part != members]

    def told_at(self, members):
        """What a row has at a tuple, by its values at kept ones."""
        waiting = [members]
        while waiting:
            last = waiting.pop()
            if last not in self.told:
                waiting.extend(self.settle(last))
        return self.told[members]

    def settle(self, members):
        """Find what a row has at a tuple; if this takes others that are not known yet, these, behind the tuple."""
        at, start = self.split_spot(members)
        if at is None:
            self.told[members] = {(members, 0): 1} if start == 0 else {}
            return []
        parts = self.parts_at(members, at, start)
        further = [part[1] for part in parts if part[1] not in self.told]
        if further:
            return [members] + further
        self.told[members] = self.sum_of(parts)
        return []

    def sum_of(self, parts):
        """The sum of parts, each of which is known."""
        products, found = self.few_over.all_products, {}
        for member, part, times in parts:
            told = self.told[part]
            for kept, inner in told:
                spot = (kept, products[member][inner])
                found[spot] = found.get(spot, 0) + times * told[(kept, inner)]
        return {spot: found[spot] for spot in found if found[spot]}

    def lines(self, step):
        """The changes at kept tuples as rows of sums of the values at the kept tuples one step below."""
        column_of = {members: at for at, members in enumerate(self.kept_tuples(step - 1))}
        return [self.line_at(members, column_of) for members in self.kept_tuples(step)]

    def line_at(self, members, column_of):
        """The change at a tuple as a row of sums."""
        parts, line = self.change_parts(members), {}
        for part in parts:
            self.told_at(part[1])
        told = self.sum_of(parts)
        for kept, member in told:
            line.setdefault(column_of[kept], {})[member] = told[(kept, member)]
        return line


def few_list(floor, step):
    """The list of a step from 1 on."""
    few = FewTuples(floor.group)
    # where no rest has a prime of the group, what is of finite order modulo changes is closed
    upper = [] if gcd(floor.group.size, multiple_of(floor.rests)) == 1 else few.lines(step + 1)
    return list_between(floor, few.lines(step), upper)
