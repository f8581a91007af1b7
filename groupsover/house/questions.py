"""Names, named rows, questions about them, and papers that show the answers.

Named rows are a dict from names to pairs of a step and a row.
"""

from groupsover.base.checks import is_within
from groupsover.rows.plain import sum_of_rows, tidy_row
from groupsover.rows.rows import has_few_tuples, has_row, short_row

MOST_NAMED_STEP = 3
LONGEST_NAME = 8
LETTERS = "abcdefghijklmnopqrstuvwxyz"
NAME_SIGNS = "abcdefghijklmnopqrstuvwxyz0123456789"
# for each word of a question how many names follow it
QUESTIONS = {"closed": 1, "change": 1, "alike": 2}


def is_name(value):
    """Whether the value is a name."""
    if not isinstance(value, str) or not 1 <= len(value) <= LONGEST_NAME or value[0] not in LETTERS:
        return False
    return all([sign in NAME_SIGNS for sign in value])


def is_short_step(group, step):
    """Whether named rows can have a step, and not too many tuples for it."""
    return 0 <= step <= MOST_NAMED_STEP and has_few_tuples(group, step)


def is_step_row(floor, value):
    """Whether the value is a pair of a step that can be named and a row for it."""
    if not isinstance(value, tuple) or len(value) != 2 or not is_within(value[0], 0, MOST_NAMED_STEP):
        return False
    return has_few_tuples(floor.group, value[0]) and has_row(floor, value[0], value[1])


def has_named(floor, value, most):
    """Whether the value is at most so many named rows on the floor."""
    if not isinstance(value, dict) or len(value) > most or not all([is_name(name) for name in value]):
        return False
    return all([is_step_row(floor, pair) for pair in value.values()])


def copied_named(named):
    """Named rows of their own, with ascending names."""
    return {name: (named[name][0], tidy_row(named[name][1])) for name in sorted(named)}


def is_question_form(value):
    """Whether the value is a question by its form."""
    if not isinstance(value, tuple) or len(value) < 2 or not isinstance(value[0], str) or value[0] not in QUESTIONS:
        return False
    return len(value) == QUESTIONS[value[0]] + 1 and all([is_name(name) for name in value[1:]])


def asked_row(floor, named, question):
    """The step and the row that a question asks for, however long its integers are."""
    step, row = named[question[1]]
    if question[0] == "alike":
        row = sum_of_rows(floor.rests, row, -1, named[question[2]][1])
    return step, row


def short_paper(verdict, paper):
    """A paper of its own, unless it is a row with too long an integer."""
    if not isinstance(paper, dict):
        return paper
    found = {members: paper[members] for members in paper}
    return short_row(found) if verdict else found
