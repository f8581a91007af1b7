"""Names, named rows, questions about them, and papers that show the answers.

Named rows are a dict from names to pairs of a step and a row.
"""

from groupsover.base.checks import is_within
from groupsover.base.groups import few_makers
from groupsover.rows.closed import has_test, value_at
from groupsover.rows.plain import change_behind, change_of, is_closed_row, sum_of_rows, tidy_row
from groupsover.rows.rows import has_few_tuples, has_members, has_row, short_row
from groupsover.rows.solving import Changes

MOST_NAMED_STEP = 3
LONGEST_NAME = 8
LETTERS = "abcdefghijklmnopqrstuvwxyz"
NAME_SIGNS = "abcdefghijklmnopqrstuvwxyz0123456789"
# for each word of a question how many names follow it
QUESTIONS = {"closed": 1, "change": 1, "alike": 2}


def is_name(value):
    """Whether the value is a name."""
    if not isinstance(value, str) or not 1 <= len(value) <= LONGEST_NAME or value[0] not in LETTERS:
        return False
    return all([sign in NAME_SIGNS for sign in value])


def is_short_step(group, step):
    """Whether named rows can have a step, and not too many tuples for it."""
    return 0 <= step <= MOST_NAMED_STEP and has_few_tuples(group, step)


def is_step_row(floor, value):
    """Whether the value is a pair of a step that can be named and a row for it."""
    if not isinstance(value, tuple) or len(value) != 2 or not is_within(value[0], 0, MOST_NAMED_STEP):
        return False
    return has_few_tuples(floor.group, value[0]) and has_row(floor, value[0], value[1])


def has_named(floor, value, most):
    """Whether the value is at most so many named rows on the floor."""
    if not isinstance(value, dict) or len(value) > most or not all([is_name(name) for name in value]):
        return False
    return all([is_step_row(floor, pair) for pair in value.values()])


def copied_named(named):
    """Named rows of their own, with ascending names."""
    return {name: (named[name][0], tidy_row(named[name][1])) for name in sorted(named)}


def is_question_form(value):
    """Whether the value is a question by its form."""
    if not isinstance(value, tuple) or len(value) < 2 or not isinstance(value[0], str) or value[0] not in QUESTIONS:
        return False
    return len(value) == QUESTIONS[value[0]] + 1 and all([is_name(name) for name in value[1:]])


def is_about(floor, named, value):
    """Whether the value is a question about named rows."""
    if not is_question_form(value) or not all([name in named for name in value[1:]]):
        return False
    if value[0] == "closed":
        return True
    steps = [named[name][0] for name in value[1:]]
    if steps[0] == 0 or steps[0] != steps[-1]:
        return False
    return all([is_closed_row(floor, steps[0], named[name][1]) for name in value[1:]])


def asked_row(floor, named, question):
    """The step and the row that a question asks for, however long its integers are."""
    step, row = named[question[1]]
    if question[0] == "alike":
        row = sum_of_rows(floor.rests, row, -1, named[question[2]][1])
    return step, row


def plain_answer(floor, named, question):
    """The verdict on a question, and a paper for it, however long its integers are."""
    step, row = asked_row(floor, named, question)
    if question[0] == "closed":
        change = change_behind(floor, step, row, few_makers(floor.group))
        return (False, list(change)[0]) if change else (True, ())
    changes = Changes(floor, step)
    source = changes.source(row)
    return (False, changes.test(row)) if source is None else (True, source)


def has_paper(floor, named, question, verdict, value):
    """Whether the value is a paper for a verdict on a question."""
    step, row = asked_row(floor, named, question)
    if question[0] == "closed":
        if verdict:
            return isinstance(value, tuple) and value == () and is_closed_row(floor, step, row)
        return has_members(floor, step + 1, value) and value in change_behind(floor, step, row, value[:1])
    if verdict:
        return has_row(floor, step - 1, value) and change_of(floor, step - 1, value) == row
    return has_test(floor, step, value) and value_at(value, row) != (0, 1)


def short_paper(verdict, paper):
    """A paper of its own, unless it is a row with too long an integer."""
    if not isinstance(paper, dict):
        return paper
    found = {members: paper[members] for members in paper}
    return short_row(found) if verdict else found
