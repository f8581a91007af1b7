"""Edits of named rows: their form, the words for which they are refused, and what is behind them."""

from groupsover.base.checks import is_integer, is_within
from groupsover.errors import Refused
from groupsover.house.questions import MOST_NAMED_STEP, is_name, is_short_step
from groupsover.rows.plain import are_short_values, change_of, sum_of_rows, tidy_row, times_of_row
from groupsover.rows.rows import has_row

# for each word of an edit how many names follow it, and how many further members
EDITS = {"put": (1, 2), "drop": (1, 0), "add": (2, 0), "times": (1, 1), "change": (1, 0), "by": (2, 0)}


def has_edit(floor, value):
    """Whether the value is an edit by its form."""
    if not isinstance(value, tuple) or not value or not isinstance(value[0], str) or value[0] not in EDITS:
        return False
    names, more = EDITS[value[0]]
    if len(value) != 1 + names + more or not all([is_name(name) for name in value[1:1 + names]]):
        return False
    if value[0] == "put":
        return is_within(value[2], 0, MOST_NAMED_STEP) and has_row(floor, value[2], value[3])
    return more == 0 or is_integer(value[2])


def copied_edit(edit):
    """An edit of its own."""
    return edit[:3] + (tidy_row(edit[3]),) if edit[0] == "put" else edit


def first_word(named, edit, most):
    """The first word for which an edit is refused ahead of all reckoning, None if there is none."""
    if edit[0] == "put":
        return "many" if edit[1] not in named and len(named) >= most else None
    names = edit[1:1 + EDITS[edit[0]][0]]
    if not all([name in named for name in names]):
        return "unknown"
    if len(names) == 2:
        wanted = named[names[1]][0] + (1 if edit[0] == "by" else 0)
        return None if named[names[0]][0] == wanted else "steps"
    return None


def step_behind(named, edit):
    """The step that a row has behind an edit of it."""
    if edit[0] == "put":
        return edit[2]
    return named[edit[1]][0] + (1 if edit[0] == "change" else 0)


def row_behind(floor, named, edit):
    """The row behind an edit of it, however long its integers are."""
    if edit[0] == "put":
        return tidy_row(edit[3])
    step, row = named[edit[1]]
    if edit[0] == "times":
        return times_of_row(floor.rests, edit[2], row)
    if edit[0] == "change":
        return change_of(floor, step, row)
    further = named[edit[2]][1]
    if edit[0] == "by":
        further = change_of(floor, step - 1, further)
    return sum_of_rows(floor.rests, row, 1, further)


def edited_once(floor, named, edit, most):
    """The word for which an edit is refused, or None, and the named rows behind it, which are at most so many."""
    word = first_word(named, edit, most)
    if word is not None:
        return word, named
    found = {name: named[name] for name in named}
    if edit[0] == "drop":
        found.pop(edit[1])
        return None, found
    step = step_behind(named, edit)
    if not is_short_step(floor.group, step):
        return "great", named
    row = row_behind(floor, named, edit)
    if not are_short_values(row):
        return "great", named
    found[edit[1]] = (step, row)
    return None, found


def plainly_edited(floor, named, edits, most):
    """The named rows, at most so many, behind edits, done one after the other, with ascending names."""
    left = named
    for index, edit in enumerate(edits):
        word, left = edited_once(floor, left, edit, most)
        if word is not None:
            raise Refused(("edit", index, word))
    return {name: left[name] for name in sorted(left)}
