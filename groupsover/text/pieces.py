"""Pieces of texts: the longest parts without blanks, and what integers and entries of rows are as pieces."""

DIGITS = "0123456789"
CHUNK = 60


def pieces_of(text):
    """The pieces of a text, each one behind the index at which it begins."""
    found, at = [], 0
    for part in text.split(" "):
        if part:
            found.append((at, part))
        at += len(part) + 1
    return found


def is_natural_piece(piece):
    """Whether a piece tells an integer from 0 on, without zeros ahead."""
    if not piece or not all([sign in DIGITS for sign in piece]):
        return False
    return piece == "0" or piece[0] != "0"


def is_integer_piece(piece):
    """Whether a piece tells an integer, without zeros ahead and without -0."""
    if piece[:1] == "-":
        return piece != "-0" and is_natural_piece(piece[1:])
    return is_natural_piece(piece)


def integer_of(piece):
    """The integer that a piece tells, however long it is."""
    digits = piece[1:] if piece[0] == "-" else piece
    # Python itself refuses to read very long integers at once
    first = len(digits) % CHUNK
    number = int(digits[:first] or "0")
    for at in range(first, len(digits), CHUNK):
        number = number * 10 ** 60 + int(digits[at:at + CHUNK])
    return -number if piece[0] == "-" else number


def integers_of(text):
    """The integers of a text in which they are parted by commas."""
    return tuple([integer_of(part) for part in text.split(",")])


def is_integers_text(text):
    """Whether a text has integers that are parted by commas."""
    return all([is_integer_piece(part) for part in text.split(",")])


def is_entry_piece(piece):
    """Whether a piece has the form of an entry of a row."""
    if piece.count(":") != 1:
        return False
    head, _, tail = piece.partition(":")
    if head and not all([is_natural_piece(part) for part in head.split(",")]):
        return False
    return is_integers_text(tail)


def entry_of(piece):
    """The members and the integers of a piece that has the form of an entry."""
    head, _, tail = piece.partition(":")
    return integers_of(head) if head else (), integers_of(tail)


def row_of_entries(pieces):
    """The row of pieces that have the form of entries, None if they do not ascend by their members."""
    entries = [entry_of(piece) for piece in pieces]
    for one, other in zip(entries, entries[1:]):
        if not one[0] < other[0]:
            return None
    return {members: integers for members, integers in entries}


def integers_text(integers):
    """The text of some integers, parted by commas."""
    return ",".join([str(entry) for entry in integers])


def row_pieces(step, row):
    """The pieces of a row: its step, and its entries, ascending."""
    return [str(step)] + [f"{integers_text(members)}:{integers_text(row[members])}" for members in sorted(row)]
