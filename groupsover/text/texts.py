"""Texts of tables, rows and told values, written and read."""

from groupsover.base.floors import need_floor
from groupsover.base.tables import is_table, need_table
from groupsover.errors import InvalidOperation, InvalidRow, InvalidTable, ParseError
from groupsover.rows.rows import MAX_STEP, need_asked, need_call, need_row, need_step
from groupsover.text.pieces import integer_of, integers_of, integers_text, is_entry_piece, is_integer_piece
from groupsover.text.pieces import is_integers_text, pieces_of, row_of_entries, row_pieces
from groupsover.text.values import Reader, is_told_value, value_text

MAX_TEXT = 20000


def need_text(text):
    """Refuse what is no string, and a text that is too long."""
    if not isinstance(text, str) or len(text) > MAX_TEXT:
        raise ParseError(None)


def write_table(table):
    """The text of a table."""
    need_table(table)
    return "/".join([integers_text(row) for row in table])


def write_row(floor, step, row):
    """The text of a row."""
    need_call(floor, step, 0, MAX_STEP, row)
    need_asked(floor, step)
    return " ".join(row_pieces(step, row))


def read_table(text):
    """The table that a text tells."""
    need_text(text)
    pieces = pieces_of(text)
    if not pieces:
        raise ParseError(len(text))
    at, piece = pieces[0]
    rows = piece.split("/")
    if not all([is_integers_text(row) for row in rows]):
        raise ParseError(at)
    if len(pieces) > 1:
        raise ParseError(pieces[1][0])
    table = tuple([integers_of(row) for row in rows])
    if not is_table(table):
        raise InvalidTable("the text tells no table")
    return table


def read_row(floor, text):
    """The step and the row that a text tells."""
    need_floor(floor)
    need_text(text)
    pieces = pieces_of(text)
    if not pieces:
        raise ParseError(len(text))
    if not is_integer_piece(pieces[0][1]):
        raise ParseError(pieces[0][0])
    for at, piece in pieces[1:]:
        if not is_entry_piece(piece):
            raise ParseError(at)
    step = integer_of(pieces[0][1])
    need_step(step, 0, MAX_STEP)
    row = row_of_entries([piece for _, piece in pieces[1:]])
    if row is None:
        raise InvalidRow("the entries do not ascend")
    need_row(floor, step, row)
    need_asked(floor, step)
    return step, row


def write_value(value):
    """The text of a told value."""
    if not is_told_value(value, 0):
        raise InvalidOperation("this is no told value")
    return value_text(value)


def read_value(text):
    """The told value with a text."""
    need_text(text)
    return Reader(text).whole_value()
