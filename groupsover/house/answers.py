"""Answers to questions about named rows, kept for as long as the rows stay as they are."""

from groupsover.base.groups import few_makers
from groupsover.house.questions import asked_row, is_question_form
from groupsover.rows.closed import has_test, value_at
from groupsover.rows.plain import change_behind
from groupsover.rows.rows import has_members, has_row
from groupsover.rows.solving import Changes


def is_left(ahead, named, question):
    """Whether all rows of a question are the same ones among two lots of named rows."""
    return all([ahead.get(name) == named.get(name) for name in question[1:]])


class Answers:
    """What was found out about the named rows of a floor: `forget` is to be called when they have changed.

    `spans` has the changes of all rows, by their steps, and `told` the answers to questions.
    """

    def __init__(self, floor):
        self.told_floor = floor
        self.first_makers = few_makers(floor.group)
        self.spans = {}
        self.told = {}

    def copied(self):
        """Answers of their own."""
        found = Answers(self.told_floor)
        found.spans = {step: self.spans[step] for step in self.spans}
        found.told = {question: self.told[question] for question in self.told}
        return found

    def forget(self, ahead, named):
        """Keep answers alone that are about the same rows among other named rows."""
        self.told = {question: self.told[question] for question in self.told if is_left(ahead, named, question)}

    def answer(self, named, question):
        """The verdict on a question about named rows, and a paper for it, however long its integers are."""
        if question not in self.told:
            self.told[question] = self.new_answer(named, question)
        return self.told[question]

    def new_answer(self, named, question):
        """The verdict on a question, and a paper for it."""
        floor = self.told_floor
        step, row = asked_row(floor, named, question)
        if question[0] == "closed":
            change = change_behind(floor, step, row, self.first_makers)
            return (False, list(change)[0]) if change else (True, ())
        if step not in self.spans:
            self.spans[step] = Changes(floor, step)
        source = self.spans[step].source(row)
        return (False, self.spans[step].test(row)) if source is None else (True, source)

    def is_about(self, named, value):
        """Whether the value is a question about named rows."""
        if not is_question_form(value) or not all([name in named for name in value[1:]]):
            return False
        if value[0] == "closed":
            return True
        steps = [named[name][0] for name in value[1:]]
        if steps[0] == 0 or steps[0] != steps[-1]:
            return False
        return all([self.answer(named, ("closed", name))[0] for name in value[1:]])

    def has_paper(self, named, question, verdict, value):
        """Whether the value is a paper for a verdict on a question about named rows."""
        floor = self.told_floor
        step, row = asked_row(floor, named, question)
        if question[0] == "closed":
            if verdict:
                return isinstance(value, tuple) and value == () and self.answer(named, question)[0]
            return has_members(floor, step + 1, value) and value in change_behind(floor, step, row, value[:1])
        if verdict:
            return has_row(floor, step - 1, value) and self.is_change_of(value, step, row)
        return has_test(floor, step, value) and value_at(value, row) != (0, 1)

    def is_change_of(self, lower, step, row):
        """Whether a closed row is the change of a row; it is if it is where a maker comes first."""
        wanted = {members: row[members] for members in row if members[0] in self.first_makers}
        return change_behind(self.told_floor, step - 1, lower, self.first_makers) == wanted

    def answer_again(self, named, question, verdict, paper):
        """Whether a verdict is known and its paper is one again; the verdict now, and the paper, or else a new one.

        Both are None if the question is none any more.
        """
        if not self.is_about(named, question):
            return False, None, None
        if verdict is not None and self.has_paper(named, question, verdict, paper):
            return True, verdict, paper
        return (False,) + self.answer(named, question)
