"""Logs of shelves: texts from which they are made again, one line for each call."""

from groupsover.base.floors import need_floor
from groupsover.errors import InvalidNumber, InvalidOperation, OverError, ParseError, Refused, TooMany
from groupsover.house.edits import EDITS, has_edit
from groupsover.house.shelf import Shelf
from groupsover.text.pieces import integer_of, is_entry_piece, is_integer_piece, row_of_entries, row_pieces


def parted(groups):
    """Lots of pieces as one, with a stroke between them."""
    found = list(groups[0])
    for group in groups[1:]:
        found.extend(["/"] + group)
    return found


def lots_of_pieces(pieces):
    """The lots of pieces between strokes."""
    found = [[]]
    for piece in pieces:
        if piece == "/":
            found.append([])
        else:
            found[-1].append(piece)
    return found


def line_of(pieces):
    """The line of some pieces."""
    return " ".join(pieces)


def first_line(named):
    """The line of the first edition."""
    lots = [[name] + row_pieces(named[name][0], named[name][1]) for name in sorted(named)]
    return line_of(parted([["shelf"]] + lots))


def edit_pieces(edit):
    """The pieces of an edit."""
    if edit[0] == "put":
        return [edit[0], edit[1]] + row_pieces(edit[2], edit[3])
    return [str(part) for part in edit]


def call_line(word, told):
    """The line of a call."""
    if word == "pin":
        return line_of([word] + list(told))
    lots = [edit_pieces(edit) for edit in told]
    return line_of(parted([[word] + lots[0]] + lots[1:]))


def log_text(shelf):
    """The log of a shelf."""
    if not isinstance(shelf, Shelf):
        raise InvalidOperation("this is no shelf")
    lines = [first_line(shelf.named_at(1))] + [call_line(word, told) for word, told in shelf.history]
    return "".join([line + "\n" for line in lines])


def told_row(pieces):
    """The step and the row that pieces tell, None if they tell none."""
    if not pieces or not is_integer_piece(pieces[0]) or not all([is_entry_piece(piece) for piece in pieces[1:]]):
        return None
    row = row_of_entries(pieces[1:])
    return None if row is None else (integer_of(pieces[0]), row)


def told_named(lots):
    """The named rows that lots of pieces tell, None if they tell none."""
    found = {}
    for lot in lots:
        pair = told_row(lot[1:])
        if pair is None:
            return None
        found[lot[0]] = pair
    return found


def told_edit(pieces):
    """The edit that pieces tell, None if they tell none."""
    if not pieces or pieces[0] not in EDITS:
        return None
    if pieces[0] == "put":
        pair = told_row(pieces[2:])
        return None if pair is None else (pieces[0], pieces[1]) + pair
    if EDITS[pieces[0]][1] == 1 and len(pieces) == 3 and is_integer_piece(pieces[2]):
        return pieces[0], pieces[1], integer_of(pieces[2])
    return tuple(pieces)


def first_shelf(floor, line):
    """The shelf that the first line of a log tells, None if it is wrong."""
    named = told_named(lots_of_pieces(line.split(" "))[1:])
    if named is None:
        return None
    shelf = Shelf(floor, named)
    return shelf if first_line(named) == line else None


def is_called(shelf, line):
    """Whether a line tells a call of a shelf, which then is done."""
    pieces = line.split(" ")
    if pieces[0] == "pin":
        shelf.pin(tuple(pieces[1:]))
        return True
    edits = [told_edit(lot) for lot in lots_of_pieces(pieces[1:])]
    if pieces[0] != "edit" or not all([has_edit(shelf.floor, edit) for edit in edits]):
        return False
    if call_line("edit", edits) != line:
        return False
    shelf.edit(tuple(edits))
    return True


def shelf_behind(floor, shelf, line):
    """The shelf behind one more line, None if the line is wrong."""
    if shelf is None:
        return first_shelf(floor, line)
    return shelf if is_called(shelf, line) else None


def shelf_of(floor, lines):
    """The shelf that the lines of a log tell."""
    shelf = None
    for index, line in enumerate(lines):
        try:
            shelf = shelf_behind(floor, shelf, line)
        except (OverError, InvalidNumber, TooMany, Refused):
            shelf = None
        if shelf is None:
            raise ParseError(index)
    return shelf


def read_log(floor, text):
    """The shelf that a log tells over a floor, and how many characters its whole lines have."""
    need_floor(floor)
    if not isinstance(text, str):
        raise ParseError(None)
    lines = text.split("\n")[:-1]
    if not lines:
        raise ParseError(0)
    return shelf_of(floor, lines), text.rfind("\n") + 1
