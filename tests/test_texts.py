"""Texts: points 20.1, 20.2 and 20.5."""

import random
import re
import unittest
from itertools import product

from examples import (C1, C2, C3, LONGEST, MIXED, NO_FLOORS, NO_NUMBERS, PLANE, Refusals, S3, SWAP, TOO_LONG, TWIST, V4, WALL,
                      WRONG, Z2, Z3, ZS, some_row, wrong_rows)
from groupsover.base.floors import Floor
from groupsover.base.groups import Group
from groupsover.base.tables import is_table
from groupsover.errors import InvalidFloor, InvalidNumber, InvalidOperation, InvalidRow, InvalidTable, ParseError, TooMany
from groupsover.rows.rows import is_row
from groupsover.text import texts
from groupsover.text.texts import read_row, read_table, read_value, write_row, write_table, write_value

INTEGER = r"(0|-?[1-9][0-9]*)"
NATURAL = r"(0|[1-9][0-9]*)"
INTEGERS = f"{INTEGER}(,{INTEGER})*"
TABLE_PIECE = re.compile(f"{INTEGERS}(/{INTEGERS})*")
ENTRY_PIECE = re.compile(f"({NATURAL}(,{NATURAL})*)?:{INTEGERS}")
NO_TEXTS = (None, True, 1, (), [], {}, ("1",), ["1"], C2, ZS, " " * 20001, "1" * 20001)
FLOORS = (ZS, Z2, MIXED, TWIST, SWAP, Z3, PLANE, WALL, Floor.still(V4, (0, 2)), Floor.still(C1, (0, 3)))


def slow_pieces(text):
    """The pieces of a text with their indices."""
    return [(found.start(), found.group()) for found in re.finditer("[^ ]+", text)]


def first_wrong(text, first, behind):
    """The index that a reader of pieces tells, None if each piece is right."""
    pieces = slow_pieces(text)
    if not pieces:
        return len(text)
    for at, (spot, piece) in enumerate(pieces):
        form = behind if at else first
        if form is None or not form.fullmatch(piece):
            return spot
    return None


def spoilt(text, source, signs):
    """A text with one sign changed, left out or added."""
    at = source.randrange(len(text) + 1)
    sign = source.choice(signs)
    return source.choice((text[:at] + sign + text[at + 1:], text[:at] + text[at + 1:], text[:at] + sign + text[at:]))


class TableTest(Refusals, unittest.TestCase):
    def test_the_example(self):
        self.assertEqual(
            [write_table(((1, -2), (0, 3))), read_table(" 4,5/6,7 "), write_row(ZS, 1, {(1,): (-4,)}), read_row(ZS, "0  :2"),
             write_value({(1, 2): (None, -3), (): ()})],
            ["1,-2/0,3", ((4, 5), (6, 7)), "1 1:-4", (0, {(): (2,)}), "{():() (1 2):(none -3)}"])

    def test_constants(self):
        self.assertEqual(texts.MAX_TEXT, 20000)

    def test_tables(self):
        source = random.Random(1)
        for _ in range(200):
            high, wide = source.choice((1, 2, 3, 40)), source.choice((1, 2, 3, 5))
            table = tuple(tuple(source.choice((0, 1, -1, 12, -345, LONGEST, -LONGEST)) for _ in range(wide)) for _ in range(high))
            text = write_table(table)
            self.assertEqual(text, "/".join(",".join(str(entry) for entry in row) for row in table))
            if len(text) <= 20000:
                self.assertEqual(read_table(text), table)
                self.assertEqual(read_table("  " + text + "   "), table)
        wide = (tuple(range(40)),) * 40
        self.assertEqual(read_table(write_table(wide)), wide)

    def test_wrong_tables(self):
        for value in WRONG + ((), ((),), ((1,), (1, 2)), [(1,)], ([1],), ((True,),), ((TOO_LONG,),), ((None,),), (1,), C2,
                              ((1,),) * 41, ((1,) * 41,)):
            self.refused(InvalidTable, write_table, value)
        for value in NO_TEXTS:
            self.refused(ParseError, read_table, value, spot=None)
        for text in ("1,2/3", "1/2,3", "/".join(["1"] * 41), ",".join(["1"] * 41), str(TOO_LONG), f"1,{-TOO_LONG}", "9" * 20000,
                     "-" + "9" * 19999, "1/" + "8" * 5000):
            self.refused(InvalidTable, read_table, text)
        self.assertEqual(read_table("/".join(["1"] * 40)), ((1,),) * 40)
        for text, spot in (("", 0), ("   ", 3), ("x", 0), (" 1,x", 1), ("1, 2", 0), ("1 2", 2), ("1,2/3 4", 6), ("1  /", 3),
                           ("01", 0), ("-0", 0), ("--1", 0), ("+1", 0), ("1,", 0), (",1", 0), ("1//2", 0), ("/1", 0), ("1/", 0), ("-", 0),
                           ("1,00", 0), ("1\t", 0), ("1\n", 0), ("\t", 0), ("1 \n", 2), ("\u0661", 0), ("1.0", 0), ("1_0", 0), ("0x1", 0),
                           (" " * 20000, 20000), ("1" + " " * 19998 + "2", 19999), ("1:2", 0), ("(1)", 0), ("none", 0)):
            self.refused(ParseError, read_table, text, spot=spot)

    def test_spoilt_tables(self):
        source = random.Random(2)
        for _ in range(3000):
            table = tuple(tuple(source.randint(-11, 11) for _ in range(source.choice((2, 2, 2, 3)))) for _ in range(source.choice((1, 2))))
            text = " ".join(["", write_table(table)]) if is_table(table) else "1,2/3"
            for _ in range(source.choice((1, 1, 2))):
                text = spoilt(text, source, "0123-,/ :x")
            spot = first_wrong(text, TABLE_PIECE, None)
            if spot is not None:
                self.refused(ParseError, read_table, text, spot=spot)
                continue
            table = tuple(tuple(int(entry) for entry in row.split(",")) for row in text.strip().split("/"))
            if is_table(table):
                self.assertEqual(read_table(text), table)
            else:
                self.refused(InvalidTable, read_table, text)


class RowTest(Refusals, unittest.TestCase):
    def test_rows(self):
        for floor in FLOORS:
            for step in range(4):
                if floor.group.size ** (step + 1) > 1300:
                    continue
                row = some_row(floor, step, 12, step)
                text = write_row(floor, step, row)
                wanted = [str(step)]
                for members in sorted(row):
                    wanted.append(",".join(map(str, members)) + ":" + ",".join(map(str, row[members])))
                self.assertEqual(text, " ".join(wanted))
                turned = dict(reversed(list(row.items())))
                self.assertEqual(write_row(floor, step, turned), text)
                found = read_row(floor, text)
                self.assertEqual(found, (step, row))
                self.assertEqual(list(found[1]), sorted(row))
                self.assertEqual(read_row(floor, " " + text.replace(" ", "   ") + "  "), (step, row))
        self.assertEqual(write_row(ZS, 4, {}), "4")
        self.assertEqual(read_row(ZS, "4"), (4, {}))
        self.assertEqual(read_row(ZS, f"1 1:{-LONGEST}"), (1, {(1,): (-LONGEST,)}))
        self.assertEqual(read_row(Floor.still(Group.round(12), (0, 0)), "2 2,11:0,-10 10,0:7,0"), (2, {(2, 11): (0, -10), (10, 0): (7, 0)}))

    def test_wrong_arguments(self):
        self.refuse_in_order(write_row, (ZS, 1, {(1,): (3,)}), [
            (0, NO_FLOORS, InvalidFloor), (1, NO_NUMBERS + (-1, 5), InvalidNumber), (2, wrong_rows(ZS, 1), InvalidRow)])
        nine = Floor.still(Group.round(9), (2,))
        self.refused(TooMany, write_row, nine, 3, {}, limit=5000)
        self.refused(InvalidRow, write_row, nine, 3, {(1, 1): (1,)})
        self.refused(TooMany, read_row, nine, "3 0,1,2:1", limit=5000)
        self.refused(InvalidRow, read_row, nine, "3 0,1,9:1")
        self.assertEqual(read_row(Floor.still(Group.round(8), (2,)), "3 0,1,2:1"), (3, {(0, 1, 2): (1,)}))
        for value in NO_FLOORS:
            self.refused(InvalidFloor, read_row, value, "x")
            self.refused(InvalidFloor, read_row, value, None)
        for value in NO_TEXTS:
            self.refused(ParseError, read_row, ZS, value, spot=None)

    def test_wrong_texts(self):
        for text, spot in (("", 0), ("  ", 2), ("x", 0), (" x", 1), ("1:1", 0), ("1 1", 2), ("1 1:", 2), ("1 1:1 :", 6), ("1  1:1:1", 3),
                           ("01 1:1", 0), ("-0", 0), ("1 01:1", 2), ("1 -1:1", 2), ("1 -0:1", 2), ("1 1:-0", 2), ("1 1:01", 2), ("1 1:1,", 2),
                           ("1 ,1:1", 2), ("1 1,:1", 2), ("1 1: 1", 2), ("1 1 :1", 2), ("1 1:1 2", 6), ("1 1:+1", 2), ("1,1", 0),
                           ("1 1:1\t", 2), ("1\n", 0), ("9 1:x", 2), ("x 1:x", 0), ("1 1:1/2", 2), ("1 \u0661:1", 2), ("1 1:\u00b2", 2),
                           (" " * 20000, 20000), ("1 ::1", 2), ("1 :1:", 2)):
            self.refused(ParseError, read_row, ZS, text, spot=spot)
        for text, given in (("5", 5), ("-1", -1), ("5 0:0", 5), ("99 1:1 1:1", 99), (str(TOO_LONG), TOO_LONG), (str(-TOO_LONG), -TOO_LONG)):
            with self.assertRaises(InvalidNumber) as caught:
                read_row(ZS, text)
            self.assertEqual(caught.exception.given, given)
        with self.assertRaises(InvalidNumber) as caught:
            read_row(ZS, "7" * 20000)
        self.assertEqual(caught.exception.given, 7 * (10 ** 20000 - 1) // 9)
        for text in ("1 1:0", "1 1:1 0:1", "1 1:1 1:1", "1 1:1 1:2", "1 2:1", "1 :1", "0 0:1", "1 1,1:1", "1 1:1,1", "2 1:1",
                     f"1 1:{TOO_LONG}", f"1 {TOO_LONG}:1", "1 1:" + "9" * 19990, "1 " + "9" * 19990 + ":1", "4 1,1,1:1",
                     "1 0:1 1:1 0:1"):
            self.refused(InvalidRow, read_row, ZS, text)
        self.refused(InvalidRow, read_row, Z2, "1 1:2")
        self.refused(InvalidRow, read_row, Z2, "1 1:-1")

    def test_spoilt_rows(self):
        source = random.Random(3)
        for _ in range(3000):
            floor = source.choice((ZS, Z2, SWAP, TWIST, PLANE))
            step = source.randint(0, 2)
            text = write_row(floor, step, some_row(floor, step, 3, source.random()))
            for _ in range(source.choice((1, 1, 2))):
                text = spoilt(text, source, "012-,: :x")
            spot = first_wrong(text, re.compile(INTEGER), ENTRY_PIECE)
            if spot is not None:
                self.refused(ParseError, read_row, floor, text, spot=spot)
                continue
            pieces = text.split()
            step, entries = int(pieces[0]), []
            for piece in pieces[1:]:
                head, tail = piece.split(":")
                entries.append((tuple(int(k) for k in head.split(",")) if head else (), tuple(int(k) for k in tail.split(","))))
            if not 0 <= step <= 4:
                self.refused(InvalidNumber, read_row, floor, text, given=step)
            elif any(one[0] >= other[0] for one, other in zip(entries, entries[1:])) or not is_row(floor, step, dict(entries)):
                self.refused(InvalidRow, read_row, floor, text)
            else:
                self.assertEqual(read_row(floor, text), (step, dict(entries)))


def some_value(source, deep):
    """A told value, nested at most so deep."""
    kind = source.choice(("none", "integer", "integer", "tuple", "dict") if deep else ("none", "integer"))
    if kind == "none":
        return None
    if kind == "integer":
        return source.choice((0, 1, -1, 10, -20, 305, LONGEST, -LONGEST))
    if kind == "tuple":
        return tuple(some_value(source, deep - 1) for _ in range(source.choice((0, 1, 2, 3))))
    found = {}
    for _ in range(source.choice((0, 1, 2, 3)) if deep > 1 else 0):
        key = tuple(source.choice((0, 1, -1, 2, 10, 11)) for _ in range(source.choice((0, 1, 1, 2))))
        found[key] = some_value(source, deep - 1)
    return found


def slow_text(value):
    """The text of a told value, by the document's words."""
    if value is None:
        return "none"
    if isinstance(value, int):
        return str(value)
    if isinstance(value, tuple):
        return f"({' '.join(slow_text(inner) for inner in value)})"
    return "{" + " ".join(f"{slow_text(key)}:{slow_text(value[key])}" for key in sorted(value)) + "}"


class Watch:
    """Which signs can come next in the text of a told value: a stack of open brackets, and what stands at its top."""

    def __init__(self):
        # each bracket is [kind, what is wanted, the last key]; a key is a bracket of its own
        self.stack, self.done, self.word = [], False, ""

    def ended(self):
        """An integer, a word or a bracket has ended."""
        self.word = ""
        if self.stack:
            self.stack[-1][1] = "behind"
        else:
            self.done = True

    def wants_value(self):
        if self.done:
            return False
        return not self.stack or (self.stack[-1][0] != "{" and self.stack[-1][1] in ("first", "next")) or (
            self.stack[-1][0] == "{" and self.stack[-1][1] == "value")

    def take(self, sign):
        """Whether a sign can come next; it then is taken."""
        if self.word[:1] == "n":
            if len(self.word) < 4:
                if sign != "none"[len(self.word)]:
                    return False
                self.word += sign
                if self.word == "none":
                    self.ended()
                return True
        if self.word:
            if sign.isascii() and sign.isdigit():
                if self.word in ("0", "-") and (self.word == "0" or sign == "0") or len(self.word.lstrip("-")) == 60:
                    return False
                self.word += sign
                return True
            if self.word == "-":
                return False
            if self.stack and self.stack[-1][0] == "key":
                self.stack[-1][2] = self.stack[-1][2] + (int(self.word),)
            self.ended()
        return self.take_other(sign)

    def take_other(self, sign):
        top = self.stack[-1] if self.stack else None
        if top and top[0] == "{" and top[1] in ("first", "next") and sign == "(":
            if len(self.stack) == 8:
                return False
            self.stack.append(["key", "first", ()])
            return True
        if top and sign == {"(": ")", "key": ")", "{": "}"}[top[0]] and top[1] in ("first", "behind"):
            self.stack.pop()
            if top[0] == "key":
                self.stack[-1][1] = "colon"
                self.stack[-1].append(top[2])
            else:
                self.ended()
            return True
        if top and sign == " " and top[1] == "behind":
            top[1] = "next"
            return True
        if top and sign == ":" and top[1] == "colon":
            key = top.pop()
            if top[2] is not None and key <= top[2]:
                return False
            top[1:] = ["value", key]
            return True
        if not self.wants_value():
            return False
        if sign in "({":
            if len(self.stack) == 8 or (top and top[0] == "key"):
                return False
            self.stack.append([sign, "first", None])
            return True
        if sign == "n" and not (top and top[0] == "key"):
            self.word = "n"
            return True
        if sign in "-0123456789":
            self.word = sign
            return True
        return False

    def is_whole(self):
        return self.done or (not self.stack and self.word not in ("", "-") and self.word[0] != "n")


def wrong_spot(text):
    """The index of the first sign with which no text goes on, or the length; None if it is a whole text."""
    watch = Watch()
    for at, sign in enumerate(text):
        if not watch.take(sign):
            return at
    return None if watch.is_whole() else len(text)


class ValueTest(Refusals, unittest.TestCase):
    def test_values(self):
        source = random.Random(4)
        for _ in range(600):
            value = some_value(source, source.choice((0, 1, 2, 3, 5)))
            text = write_value(value)
            self.assertEqual(text, slow_text(value))
            if len(text) <= 20000:
                found = read_value(text)
                self.assertEqual(repr(found), repr(read_value(slow_text(found))))
                self.assertEqual(found, value)
        self.assertEqual([write_value(value) for value in (None, 0, -7, (), {}, ((),), ({}, {}), {(): None}, {(-1, 2): {}})],
                         ["none", "0", "-7", "()", "{}", "(())", "({} {})", "{():none}", "{(-1 2):{}}"])
        self.assertEqual(list(read_value("{(-2):1 (-1):2 (-1 5):3 (0):4}")), [(-2,), (-1,), (-1, 5), (0,)])
        self.assertEqual(write_value({(10,): 1, (9,): 2, (): 3, (9, -1): 4}), "{():3 (9):2 (9 -1):4 (10):1}")

    def test_no_values(self):
        for value in (True, False, "a", "", [], [1], "none", C2, ZS, TOO_LONG, -TOO_LONG, (True,), ([],), ((None, "a"),), {1: 2},
                      {"a": 1}, {(1,): True}, {(1,): [1]}, {(True,): 1}, {(None,): 1}, {((),): 1}, {((1,),): 1}, {(TOO_LONG,): 1},
                      {(1,): TOO_LONG}, {None: 1}, {(1,): 1, 2: 3}, (1, False), ((((False,),),),), 10 ** 219, ({(1,): "a"},),
                      {(1, "a"): 1}):
            self.refused(InvalidOperation, write_value, value)
        self.assertEqual(write_value((LONGEST, {(-LONGEST,): None})), f"({LONGEST} {{(-{LONGEST}):none}})")

    def test_depths(self):
        for deep in range(1, 12):
            tuples, dicts = (), {}
            for _ in range(deep - 1):
                tuples, dicts = (tuples,), {(1,): dicts}
            texts_of = {"tuples": "(" * deep + ")" * deep, "dicts": "{(1):" * (deep - 1) + "{}" + "}" * (deep - 1)}
            if deep <= 8:
                self.assertEqual(write_value(tuples), texts_of["tuples"])
                self.assertEqual(read_value(texts_of["tuples"]), tuples)
                self.assertEqual(write_value(dicts), texts_of["dicts"])
                self.assertEqual(read_value(texts_of["dicts"]), dicts)
            else:
                self.refused(InvalidOperation, write_value, tuples)
                self.refused(InvalidOperation, write_value, dicts)
                self.refused(ParseError, read_value, texts_of["tuples"], spot=8)
                # at the eighth dict there is no room for a key
                self.refused(ParseError, read_value, texts_of["dicts"], spot=5 * 7 + 1)
        inner = {(): 1}
        for _ in range(6):
            inner = (inner,)
        self.assertEqual(read_value(write_value(inner)), inner)
        self.refused(InvalidOperation, write_value, (inner,))
        self.refused(ParseError, read_value, "(" * 7 + "{():1}" + ")" * 7, spot=8)
        self.assertEqual(read_value("(" * 7 + "{}" + ")" * 7), ((((((({},),),),),),),))
        self.refused(ParseError, read_value, "(" * 8 + "{", spot=8)

    def test_wrong_texts(self):
        for value in NO_TEXTS:
            self.refused(ParseError, read_value, value, spot=None)
        cases = (("", 0), (" ", 0), ("n", 1), ("non", 3), ("nope", 2), ("none ", 4), ("nonee", 4), ("None", 0), ("-", 1), ("-0", 1), ("00", 1),
                 ("01", 1), ("--1", 1), ("+1", 0), ("1 ", 1), ("1,", 1), ("1.", 1), ("(", 1), ("( ", 1), ("( )", 1), ("(1", 2), ("(1 ", 3), ("(1 )", 3),
                 ("(1  2)", 3), ("(1,2)", 2), ("()()", 2), ("())", 2), (")", 0), ("{", 1), ("{}}", 2), ("{1:2}", 1), ("{(1)", 4), ("{(1) :2}", 4),
                 ("{(1):}", 5), ("{(1): 2}", 5), ("{(1):2", 6), ("{(1):2 ", 7), ("{(1):2 }", 7), ("{(1):2  (2):3}", 7), ("{(1):2(2):3}", 6),
                 ("{(1):2 (1):3}", 10), ("{(2):2 (1):3}", 10), ("{(1):2 ():3}", 9), ("{(1 2):2 (1):3}", 12), ("{(1):2 (1 0):3}", None),
                 ("{(none):1}", 2), ("{((1)):1}", 2), ("{({}):1}", 2), ("{(1 (2)):1}", 4), ("{():1 ():2}", 8), ("{none:1}", 1), ("{():none}", None),
                 ("{:1}", 1), ("\t", 0), ("(\t)", 1), ("9" * 60, None), ("9" * 61, 60), ("-" + "9" * 60, None), ("-" + "9" * 61, 61),
                 ("(" + "9" * 61 + ")", 61), ("{(" + "1" * 61 + "):1}", 62), ("1\n", 1), ("\u0661", 0), ("1\u0661", 1), ("(-)", 2), ("(0 -0)", 4),
                 ("9" * 20000, 60), ("(" + "1 " * 9999, 19999), (" " * 20000, 0), ("{(-1):1 (-2):2}", 12), ("{(9):1 (10):2}", None),
                 ("(none none)", None), ("(nonenone)", 5), ("(none1)", 5), ("(1none)", 2), ("[1]", 0), ("true", 0), ("(){}", 2))
        for text, spot in cases:
            self.assertEqual(wrong_spot(text), spot, text)
            if spot is None:
                self.assertEqual(write_value(read_value(text)), text)
            else:
                self.refused(ParseError, read_value, text, spot=spot)

    def test_all_short_texts(self):
        for size in range(5):
            for signs in product("({)}:0- 1", repeat=size):
                self.look_at("".join(signs))

    def look_at(self, text):
        spot = wrong_spot(text)
        if spot is None:
            self.assertEqual(write_value(read_value(text)), text)
        else:
            self.refused(ParseError, read_value, text, spot=spot)

    def test_spoilt_texts(self):
        source = random.Random(5)
        for _ in range(4000):
            value = some_value(source, source.choice((2, 3, 8)))
            text = write_value(value)[:4000]
            for _ in range(source.choice((0, 1, 1, 2))):
                text = spoilt(text, source, "(){}: 01-nonex")
            self.look_at(text)

    def test_long_texts(self):
        value = (1,) * 9999
        self.assertEqual(len(write_value(value)), 19999)
        self.assertEqual(read_value(write_value(value)), value)
        value = (10,) + (1,) * 9998
        self.assertEqual(read_value(write_value(value)), value)
        value = (1,) * 10000
        self.assertEqual(len(write_value(value)), 20001)
        self.refused(ParseError, read_value, write_value(value), spot=None)
        table = ((LONGEST,) * 40,) * 9
        self.refused(ParseError, read_table, write_table(table), spot=None)
        self.assertEqual(len(write_table(table)), 9 * 40 * 61 - 1)
        self.assertEqual(read_table(write_table(table[:8])), table[:8])
        rest = Floor.still(S3, (0,) * 4)
        row = {(g, h): (LONGEST,) * 4 for g in S3 for h in S3}
        self.assertEqual(read_row(rest, write_row(rest, 2, row)), (2, row))
        self.assertEqual(read_row(Floor.still(C3, (2,)), "1" + " " * 19995 + "2:1"), (1, {(2,): (1,)}))


if __name__ == "__main__":
    unittest.main()
