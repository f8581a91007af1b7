"""Told values: None, integers, tuples and dicts, nested at most eight deep, and the reading of their texts."""

from groupsover.base.checks import MOST_DIGITS, is_integer
from groupsover.errors import ParseError
from groupsover.text.pieces import DIGITS

DEEPEST = 8
NOTHING = "none"


def is_key(value):
    """Whether the value is a tuple of integers."""
    return isinstance(value, tuple) and all([is_integer(entry) for entry in value])


def is_told_value(value, deep):
    """Whether the value can be told inside so many brackets."""
    if value is None or is_integer(value):
        return True
    if not isinstance(value, (tuple, dict)) or deep == DEEPEST:
        return False
    if isinstance(value, tuple):
        return all([is_told_value(inner, deep + 1) for inner in value])
    # a key has a bracket of its own inside that of the dict
    if value and deep + 1 == DEEPEST:
        return False
    return all([is_key(key) and is_told_value(value[key], deep + 1) for key in value])


def value_text(value):
    """The text of a told value."""
    if value is None:
        return NOTHING
    if isinstance(value, tuple):
        return "(" + " ".join([value_text(inner) for inner in value]) + ")"
    if isinstance(value, dict):
        return "{" + " ".join([value_text(key) + ":" + value_text(value[key]) for key in sorted(value)]) + "}"
    return str(value)


class Reader:
    """A text of a told value, read from one sign to the next one; each error tells the first one that is wrong."""

    def __init__(self, text):
        self.read_text = text
        self.spot_at = 0

    def next_sign(self):
        """The next sign, empty at the end."""
        return self.read_text[self.spot_at:self.spot_at + 1]

    def is_digit_next(self):
        """Whether a digit comes next."""
        return self.spot_at < len(self.read_text) and self.next_sign() in DIGITS

    def refuse(self):
        """Refuse the next sign."""
        raise ParseError(self.spot_at)

    def take(self, sign):
        """Go on behind a sign that has to come next."""
        if self.next_sign() != sign:
            self.refuse()
        self.spot_at += 1

    def take_bracket(self, sign, deep):
        """Go on behind an open bracket, which stands inside so many others."""
        if deep == DEEPEST:
            self.refuse()
        self.take(sign)

    def told_value(self, deep):
        """The told value that comes next, inside so many brackets."""
        if self.next_sign() == NOTHING[0]:
            for sign in NOTHING:
                self.take(sign)
            return None
        if self.next_sign() == "(":
            return self.told_tuple(deep)
        if self.next_sign() == "{":
            return self.told_dict(deep)
        return self.told_integer()

    def told_integer(self):
        """The integer that comes next."""
        start = self.spot_at
        if self.next_sign() == "-":
            self.spot_at += 1
            if self.next_sign() == "0":
                self.refuse()
        if not self.is_digit_next():
            self.refuse()
        if self.next_sign() == "0":
            self.spot_at += 1
            return 0
        first = self.spot_at
        while self.is_digit_next():
            if self.spot_at - first == MOST_DIGITS:
                self.refuse()
            self.spot_at += 1
        return int(self.read_text[start:self.spot_at])

    def told_tuple(self, deep):
        """The tuple that comes next."""
        self.take_bracket("(", deep)
        found = []
        while self.next_sign() != ")":
            if found:
                self.take(" ")
            found.append(self.told_value(deep + 1))
        self.take(")")
        return tuple(found)

    def told_key(self, deep):
        """The tuple of integers that comes next."""
        self.take_bracket("(", deep)
        found = []
        while self.next_sign() != ")":
            if found:
                self.take(" ")
            found.append(self.told_integer())
        self.take(")")
        return tuple(found)

    def told_dict(self, deep):
        """The dict that comes next."""
        self.take_bracket("{", deep)
        found, last = {}, None
        while self.next_sign() != "}":
            if found:
                self.take(" ")
            key = self.told_key(deep + 1)
            if last is not None and not last < key:
                self.refuse()
            self.take(":")
            found[key] = self.told_value(deep + 1)
            last = key
        self.take("}")
        return found

    def whole_value(self):
        """The told value of the whole text."""
        found = self.told_value(0)
        if self.spot_at < len(self.read_text):
            self.refuse()
        return found
