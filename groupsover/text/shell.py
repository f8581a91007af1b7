"""A shell: lines that are said to a shelf, and its answers."""

from groupsover.errors import InvalidNumber, InvalidOperation, OverError, Refused, TooMany, UnknownName
from groupsover.house.questions import QUESTIONS, is_name
from groupsover.house.shelf import Shelf
from groupsover.rows.closed import class_list, class_order
from groupsover.text.pieces import integer_of, is_entry_piece, is_integer_piece, pieces_of, row_of_entries
from groupsover.text.texts import write_row, write_value

MAX_LINE = 2000
MOST_LINES = 40
# what stands behind the first word of a line; entries may follow a put, and names the word of a question
FORMS = {"put": ("name", "=", "integer"), "drop": ("name",), "add": ("name", "name"), "times": ("name", "integer"),
         "change": ("name",), "by": ("name", "name"), "ask": ("question",), "pin": ("question",),
         "stand": ("integer",), "show": ("name",), "order": ("name",), "list": ("integer",), "names": ()}
EDIT_WORDS = ("put", "drop", "add", "times", "change", "by")


class Shell:
    """A shelf that is led by lines."""

    def __init__(self, shelf):
        if not isinstance(shelf, Shelf):
            raise InvalidOperation("a shell takes a shelf")
        self._shelf = shelf
        self._said = 0

    @property
    def said(self):
        """How many lines were said."""
        return self._said

    def say(self, line):
        """Do what a line tells; its answer."""
        need_line(line)
        self._said += 1
        return answer_to(self._shelf, line)

    def run(self, lines):
        """Do what some lines tell, one after the other; their answers."""
        if not isinstance(lines, tuple) or len(lines) > MOST_LINES:
            raise InvalidOperation("a tuple of at most 40 lines is wanted")
        for line in lines:
            need_line(line)
        return tuple([self.say(line) for line in lines])

    def __str__(self):
        return f"shell, {self._said} lines said"


def need_line(line):
    """Refuse what is no line."""
    if not isinstance(line, str) or len(line) > MAX_LINE or not all([" " <= sign <= "~" for sign in line]):
        raise InvalidOperation("a line is a string of at most 2000 printable ASCII characters")


def form_of(pieces):
    """The kinds of the pieces that are wanted behind the first one, which is a known word."""
    form = FORMS[pieces[0]]
    if pieces[0] == "put":
        return form + ("entry",) * (len(pieces) - len(form) - 1)
    if form == ("question",) and len(pieces) > 1 and pieces[1] in QUESTIONS:
        return form + ("name",) * QUESTIONS[pieces[1]]
    return form


def does_fit(piece, kind):
    """Whether a piece is of a kind."""
    if kind == "name":
        return is_name(piece)
    if kind == "integer":
        return is_integer_piece(piece)
    if kind == "entry":
        return is_entry_piece(piece)
    if kind == "question":
        return piece in QUESTIONS
    return piece == kind


def first_wrong(pieces):
    """How many pieces can stand where they stand ahead of one that cannot, or is lacking; None if nothing is wrong."""
    if pieces[0] not in FORMS:
        return 0
    form = form_of(pieces)
    for at, piece in enumerate(pieces[1:]):
        if at >= len(form) or not does_fit(piece, form[at]):
            return at + 1
    return len(pieces) if len(pieces) <= len(form) else None


def answer_to(shelf, line):
    """The answer to a line."""
    found = pieces_of(line)
    if not found:
        return ""
    pieces = [piece for _, piece in found]
    wrong = first_wrong(pieces)
    if wrong is not None:
        spots = [at for at, _ in found] + [len(line)]
        return f"wrong at {spots[wrong]}"
    try:
        return done(shelf, pieces)
    except Refused as refusal:
        return f"refused {refusal.reason[-1]}"
    except TooMany as excess:
        return f"too many {excess.limit}"
    except (OverError, InvalidNumber, UnknownName):
        return "invalid"


def told_edit(pieces):
    """The edit that pieces tell."""
    word, name = pieces[0], pieces[1]
    if word == "times":
        return word, name, integer_of(pieces[2])
    if word != "put":
        return tuple(pieces)
    row = row_of_entries(pieces[4:])
    if row is None:
        raise InvalidOperation("the entries do not ascend")
    return word, name, integer_of(pieces[3]), row


def named_pair(shelf, name):
    """The step and the row of a name at the last edition."""
    if name not in shelf:
        raise UnknownName(name)
    return shelf.named_at()[name]


def done(shelf, pieces):
    """The answer to the pieces of a line, each of which can stand where it stands."""
    word, behind = pieces[0], pieces[1:]
    if word in EDIT_WORDS:
        edit = told_edit(pieces)
        return "edition " + str(shelf.edit((edit,)))
    if word == "pin":
        return "claim " + str(shelf.pin(tuple(behind)))
    if word == "ask":
        verdict, paper = shelf.decided(tuple(behind))
        return ("yes " if verdict else "no ") + write_value(paper)
    if word == "stand":
        return shelf.standing(integer_of(behind[0]))[0]
    if word == "list":
        return write_value(class_list(shelf.floor, integer_of(behind[0])))
    if word == "names":
        return " ".join(list(shelf.named_at()))
    step, row = named_pair(shelf, behind[0])
    return write_row(shelf.floor, step, row) if word == "show" else str(class_order(shelf.floor, step, row))
