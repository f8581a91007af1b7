"""A shelf of named rows that are edited, with questions that were pinned and their standing."""

from groupsover.base.checks import is_within
from groupsover.base.floors import need_floor
from groupsover.errors import InvalidNumber, InvalidOperation, InvalidRow, TooMany
from groupsover.house.answers import Answers, is_left
from groupsover.house.edits import copied_edit, has_edit, plainly_edited
from groupsover.house.questions import copied_named, has_named, is_question_form, short_paper

MAX_NAMED = 12
MAX_CLAIMS = 20
MAX_EDITIONS = 40
MAX_EDITS = 10


def need_named(floor, named):
    """Refuse what is no floor, and what are no named rows on it."""
    need_floor(floor)
    if not has_named(floor, named, MAX_NAMED):
        raise InvalidRow("these are no named rows on the floor")


def need_about(answers, named, question):
    """Refuse what is no question about named rows."""
    if not answers.is_about(named, question):
        raise InvalidOperation("this is no question about the named rows")


def need_edits(floor, edits):
    """Refuse what is no tuple of one to ten edits."""
    if not isinstance(edits, tuple) or not 1 <= len(edits) <= MAX_EDITS:
        raise InvalidOperation("a tuple of one to ten edits is wanted")
    if not all([has_edit(floor, edit) for edit in edits]):
        raise InvalidOperation("this is no edit")


def is_question(value):
    """Whether the value is a question by its form."""
    return is_question_form(value)


def decide(floor, named, question):
    """The verdict on a question about named rows, and a paper for it."""
    need_named(floor, named)
    return answered(Answers(floor), named, question)


def answered(answers, named, question):
    """The verdict on a question about named rows, and a paper of its own for it."""
    need_about(answers, named, question)
    verdict, paper = answers.answer(named, question)
    return verdict, short_paper(verdict, paper)


def is_paper(floor, named, question, verdict, value):
    """Whether the value is a paper for a verdict on a question about named rows."""
    need_named(floor, named)
    answers = Answers(floor)
    need_about(answers, named, question)
    if not isinstance(verdict, bool):
        raise InvalidOperation("a verdict is a boolean")
    return answers.has_paper(named, question, verdict, value)


def is_edit(floor, value):
    """Whether the value is an edit by its form."""
    need_floor(floor)
    return has_edit(floor, value)


def edited(floor, named, edits):
    """The named rows behind edits, done one after the other."""
    need_named(floor, named)
    need_edits(floor, edits)
    return plainly_edited(floor, copied_named(named), edits, MAX_NAMED)


class Shelf:
    """Editions of named rows on a floor, and claims: questions that were pinned with a verdict."""

    def __init__(self, floor, named=None):
        first = {} if named is None else named
        need_named(floor, first)
        self._floor = floor
        self._editions = [copied_named(first)]
        self._claims = []
        # for each claim its standings, from the edition of its pinning on
        self._standings = []
        self._history = []
        # what was found out about the named rows of the last edition
        self._answers = Answers(floor)

    @property
    def floor(self):
        """The floor of all rows."""
        return self._floor

    @property
    def editions(self):
        """How many editions there are."""
        return len(self._editions)

    @property
    def claims(self):
        """The question, the verdict and the edition of each claim."""
        return tuple(self._claims)

    @property
    def fallen(self):
        """The ascending tuple of the numbers of claims that are fallen at the last edition."""
        return tuple([at + 1 for at, known in enumerate(self._standings) if known[-1][0] == "fallen"])

    @property
    def history(self):
        """The edits and the pins that were done, in order."""
        return tuple([(word, tuple([copied_edit(edit) for edit in told]) if word == "edit" else told)
                      for word, told in self._history])

    def edit(self, edits):
        """Make a further edition, the last one behind edits; its number."""
        need_edits(self._floor, edits)
        ahead = self._editions[-1]
        named = plainly_edited(self._floor, ahead, edits, MAX_NAMED)
        if len(self._editions) >= MAX_EDITIONS:
            raise TooMany(MAX_EDITIONS)
        self._editions.append(named)
        self._answers.forget(ahead, named)
        self._standings = [known + [standing] for known, standing in zip(self._standings, self.next_standings(ahead))]
        self._history.append(("edit", tuple([copied_edit(edit) for edit in edits])))
        return len(self._editions)

    def next_standings(self, ahead):
        """The standings of all claims at the last edition, behind those at the edition ahead, whose rows are passed."""
        named, found, asked = self._editions[-1], [], {}
        for claim, standings in zip(self._claims, self._standings):
            question, pinned, _ = claim
            before = standings[-1][1:]
            # claims on one question mostly have one paper, which is asked once
            if question not in asked or asked[question][0] != before:
                asked[question] = (before, self.next_answer(ahead, named, question, before))
            kept, verdict, paper = asked[question][1]
            word = "stands" if kept else "another"
            found.append((word if verdict == pinned else "fallen", verdict, paper))
        return found

    def next_answer(self, ahead, named, question, before):
        """Whether a paper is kept behind an edit, and the verdict and the paper then; those before are passed."""
        verdict, paper = before
        if is_left(ahead, named, question):
            return True, verdict, paper
        return self._answers.answer_again(named, question, verdict, paper)

    def decided(self, question):
        """The verdict on a question at the last edition, and a paper for it."""
        return answered(self._answers, self._editions[-1], question)

    def pin(self, question):
        """Pin a question at the last edition with its verdict; the number of the claim."""
        named = self._editions[-1]
        need_about(self._answers, named, question)
        if len(self._claims) >= MAX_CLAIMS:
            raise TooMany(MAX_CLAIMS)
        verdict, paper = self._answers.answer(named, question)
        self._claims.append((question, verdict, len(self._editions)))
        self._standings = self._standings + [[("stands", verdict, paper)]]
        self._history.append(("pin", question))
        return len(self._claims)

    def edition_or_last(self, edition, least):
        """The number of an edition from the least one on, None standing for the last one."""
        if edition is None:
            return len(self._editions)
        if not is_within(edition, least, len(self._editions)):
            raise InvalidNumber(edition)
        return edition

    def named_at(self, edition=None):
        """The named rows of an edition."""
        return copied_named(self._editions[self.edition_or_last(edition, 1) - 1])

    def standing(self, number, edition=None):
        """The word, the verdict and the paper of a claim at an edition."""
        if not is_within(number, 1, len(self._claims)):
            raise InvalidNumber(number)
        pinned_at = self._claims[number - 1][2]
        at = self.edition_or_last(edition, pinned_at)
        word, verdict, paper = self._standings[number - 1][at - pinned_at]
        return word, verdict, short_paper(verdict, paper)

    def twin(self):
        """An equal shelf that changes by itself."""
        other = Shelf(self._floor)
        other._editions = list(self._editions)
        other._claims = list(self._claims)
        other._standings = list(self._standings)
        other._history = list(self._history)
        other._answers = self._answers.copied()
        return other

    def __contains__(self, value):
        return isinstance(value, str) and value in self._editions[-1]

    def __len__(self):
        return len(self._editions[-1])

    def __eq__(self, other):
        return (isinstance(other, Shelf) and self._floor == other._floor and self._editions == other._editions
                and self._claims == other._claims)

    def __str__(self):
        return f"shelf of {len(self._editions[-1])} rows, edition {len(self._editions)}"
