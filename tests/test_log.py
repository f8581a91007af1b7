"""Logs of shelves: points 19.4 and 19.5."""

import random
import unittest

from examples import C2, C3, LONGEST, MIXED, NO_FLOORS, PLANE, Refusals, V4, WRONG, Z2, Z3, ZS
from groupsover.base.floors import Floor
from groupsover.base.groups import Group
from groupsover.errors import InvalidFloor, InvalidOperation, OverError, ParseError, Refused, TooMany
from groupsover.house.log import log_text, read_log
from groupsover.house.shelf import Shelf
from test_shelf import FLOORS, PLAIN, some_edit, some_named, some_question


def slow_row(step, row):
    """A row by its step and entries, by the document's words."""
    pieces = [str(step)]
    for members in sorted(row):
        pieces.append(",".join(map(str, members)) + ":" + ",".join(map(str, row[members])))
    return " ".join(pieces)


def slow_log(first, history):
    """The log of a shelf, by the document's words."""
    lines = [" / ".join(["shelf"] + [f"{name} {slow_row(*first[name])}" for name in sorted(first)])]
    for word, told in history:
        if word == "pin":
            lines.append(" ".join(("pin",) + told))
        else:
            edits = []
            for edit in told:
                if edit[0] == "put":
                    edits.append(f"put {edit[1]} {slow_row(edit[2], edit[3])}")
                else:
                    edits.append(" ".join(map(str, edit)))
            lines.append("edit " + " / ".join(edits))
    return "".join(line + "\n" for line in lines)


def some_shelf(floor, seed, turns=12):
    """A shelf that was led by drawn calls."""
    source, shelf = random.Random(seed), Shelf(floor, some_named(floor, seed))
    for _ in range(turns):
        try:
            if source.random() < 0.5:
                shelf.pin(some_question(source, shelf.named_at()))
            else:
                shelf.edit(tuple(some_edit(floor, source, shelf.named_at()) for _ in range(source.randint(1, 2))))
        except (OverError, Refused, TooMany):
            pass
    return shelf


SHELVES = [some_shelf(floor, seed) for at, floor in enumerate(FLOORS) for seed in range(3 * at, 3 * at + 3)]
TOLD = Shelf(ZS, {"b": (0, {(): (2,)}), "a": (1, {(1,): (4,)})})
TOLD.pin(("change", "a"))
TOLD.edit((("by", "a", "b"), ("times", "a", -3), ("put", "c", 2, {(1, 1): (-5,), (0, 1): (10,)}), ("drop", "b")))
TOLD.pin(("alike", "a", "a"))
TOLD.edit((("put", "n", 0, {}), ("add", "a", "a"), ("change", "n")))
LINES = ("shelf / a 1 1:4 / b 0 :2", "pin change a", "edit by a b / times a -3 / put c 2 0,1:10 1,1:-5 / drop b",
         "pin alike a a", "edit put n 0 / add a a / change n")


def text_of(lines):
    return "".join(line + "\n" for line in lines)


class LogTest(Refusals, unittest.TestCase):
    def test_a_log(self):
        self.assertEqual(log_text(TOLD), text_of(LINES))
        self.assertEqual(log_text(Shelf(ZS)), "shelf\n")
        self.assertEqual(log_text(Shelf(Floor.still(C3, (0, 2)), {"a": (1, {(2,): (-1, 1), (0,): (10, 0)})})),
                         "shelf / a 1 0:10,0 2:-1,1\n")

    def test_logs_by_words(self):
        for shelf in SHELVES:
            self.assertEqual(log_text(shelf), slow_log(shelf.named_at(1), shelf.history))

    def test_read_as_written(self):
        for shelf in SHELVES + [TOLD, Shelf(ZS), Shelf(MIXED)]:
            text = log_text(shelf)
            found, many = read_log(shelf.floor, text)
            self.assertEqual((found, many), (shelf, len(text)))
            self.assertEqual((found.history, found.fallen), (shelf.history, shelf.fallen))
            for number in range(1, len(shelf.claims) + 1):
                for edition in range(shelf.claims[number - 1][2], shelf.editions + 1):
                    self.assertEqual(found.standing(number, edition), shelf.standing(number, edition))
            self.assertEqual(log_text(shelf.twin()), text)

    def test_beginnings(self):
        text = log_text(TOLD)
        for cut in range(len(text) + 1):
            lines = text[:cut].count("\n")
            if lines == 0:
                self.refused(ParseError, read_log, ZS, text[:cut], spot=0)
                continue
            found, many = read_log(ZS, text[:cut])
            self.assertEqual(many, text[:cut].rfind("\n") + 1)
            twin = Shelf(ZS, TOLD.named_at(1))
            for word, told in TOLD.history[:lines - 1]:
                if word == "edit":
                    twin.edit(told)
                else:
                    twin.pin(told)
            self.assertEqual((found, found.history), (twin, TOLD.history[:lines - 1]))
        # what stands behind the last newline is left out, whatever it is
        for tail in (" ", "x", "pin closed", "edit drop", "\t", "/", "shelf"):
            self.assertEqual(read_log(ZS, text + tail), (TOLD, len(text)))

    def test_spoilt_lines(self):
        wrongs = {0: ("", " ", "Shelf", "shelf /", "shelf / ", "shelf ", " shelf", "shelf x", "pin change a", LINES[0] + " ",
                      "shelf / a", "shelf / a 1 1:4 / b", "shelf / a 1 1:4 /", "shelf / a 1 1:4 / b 0 :02", "shelf / b 0 :2 / a 1 1:4",
                      "shelf / a 1 1:4 / a 1 1:4", "shelf / a 1 1:4 / a 1 1:5", "shelf / a 1  1:4", "shelf / a 1 1:+4",
                      "shelf / a 01 1:4", "shelf / a 1 1:-0", "shelf / a 1 1:0", "shelf / a 1 2:4", "shelf / a 1 1,1:4",
                      "shelf / a 1 1:4,5", "shelf / a 1 1:4 1:5", "shelf / a 1 1:4 0:1", "shelf / a 4", "shelf / a -1",
                      "shelf / A 1 1:4", "shelf / a 1 :4", "shelf / a 1 1:4:", "shelf / a 1 1:", "shelf / a 1 1", "shelf a 1 1:4",
                      "shelf/ a 1 1:4", "shelf / a 1 1:4\t", f"shelf / a 1 1:{LONGEST + 1}", "shelf / a " + "9" * 5000,
                      "shelf / a 1 1:" + "9" * 5000, "shelf / a 1 " + "9" * 5000 + ":1", "shelf / a 1 1:\u0664",
                      "shelf / " + " / ".join(f"a{k:02d} 0" for k in range(13))),
                  1: ("", " ", "pin", "pin ", "pin change", "pin change x", "pin change b", "pin change a ", "pin  change a",
                      " pin change a", "pin change a a", "pin alike a b", "Pin change a", "change a", "pin is a", "stand 1",
                      "pin / change a", "pin change / a"),
                  2: ("edit", "edit ", "edit /", "edit drop", "edit drop x", "edit drop b ", "edit  drop b", "edit drop b /",
                      "edit drop b / ", "edit / drop b", "edit times a", "edit times a x", "edit times a -0", "edit times a 02",
                      f"edit times a {LONGEST + 1}", "edit times a " + "9" * 5000, "edit add a b", "edit by b a", "edit by a",
                      "edit by a b b", "edit put c", "edit put c x", "edit put c 2 1,1:0", "edit put c 2 1,1:1 0,1:1",
                      "edit put c 2 1,1", "edit put c 4", "edit put c 2  1,1:1", "edit put C 2", "edit put c 02", "edit change x",
                      "edit drop b drop a", "edit " + " / ".join(["times a 1"] * 11), "edit put c 0 0:1", "edit Drop b",
                      "edits drop b", "edit pin change a", "edit put c 0 :1 :1", "edit put c " + "9" * 5000)}
        for index, lines in wrongs.items():
            for line in lines:
                for behind in ((), LINES[index + 1:], ("",)):
                    text = text_of(LINES[:index] + (line,) + behind)
                    self.refused(ParseError, read_log, ZS, text, spot=index)
        self.refused(ParseError, read_log, ZS, text_of(LINES[:3] + (LINES[3] + "x",)), spot=3)
        self.refused(ParseError, read_log, ZS, "\n", spot=0)
        # the first wrong line is told
        self.refused(ParseError, read_log, ZS, text_of(LINES[:2] + ("x", "y")), spot=2)
        self.refused(ParseError, read_log, ZS, text_of(("x",) + LINES), spot=0)

    def test_spoilt_signs(self):
        # one sign changed: another shelf with just this log, or the line is wrong, or a later one
        source, text = random.Random(7), text_of(LINES)
        for _ in range(1500):
            at = source.randrange(len(text))
            sign = source.choice("abz019:,-/ \nT")
            other = source.choice((text[:at] + sign + text[at + 1:], text[:at] + text[at + 1:], text[:at] + sign + text[at:]))
            try:
                found, many = read_log(ZS, other)
            except ParseError as error:
                self.assertGreaterEqual(error.spot, min(text[:at].count("\n"), other.count("\n") - 1))
                self.assertLess(error.spot, max(1, other.count("\n")))
                continue
            self.assertEqual(log_text(found), other[:many])
            self.assertEqual(many, other.rfind("\n") + 1)

    def test_wrong_arguments(self):
        for value in WRONG + (C2, ZS, PLAIN, "shelf\n", (Shelf(ZS),)):
            self.refused(InvalidOperation, log_text, value)
        for value in NO_FLOORS:
            self.refused(InvalidFloor, read_log, value, "shelf\n")
            self.refused(InvalidFloor, read_log, value, None)
        for value in (None, True, 1, (), [], {}, ("shelf\n",), ["shelf\n"], C2, Shelf(ZS)):
            self.refused(ParseError, read_log, ZS, value, spot=None)
        for value in ("", "shelf", "pin", " "):
            self.refused(ParseError, read_log, ZS, value, spot=0)

    def test_other_floors(self):
        # a log tells its rows over the floor that is passed
        text = "shelf / a 1 1:1\npin closed a\n"
        self.assertEqual([read_log(floor, text)[0].claims[0][1] for floor in (ZS, Z2, Floor.still(C2, (0,)))], [True, True, False])
        self.refused(ParseError, read_log, Floor.still(C2, (0, 0)), text, spot=0)
        self.refused(ParseError, read_log, Z2, "shelf / a 1 1:2\n", spot=0)
        self.assertEqual(read_log(Z3, "shelf / a 1 2:2\n")[0].named_at(), {"a": (1, {(2,): (2,)})})
        self.assertEqual(len(read_log(PLANE, "shelf / a 0 :1,-1\npin closed a\n")[0].claims), 1)

    def test_calls_that_are_refused(self):
        lines = ["shelf / a 0 :1"] + ["edit times a -1"] * 39
        found, _ = read_log(ZS, text_of(lines))
        self.assertEqual(found.editions, 40)
        self.refused(ParseError, read_log, ZS, text_of(lines + ["edit times a -1"]), spot=40)
        lines = ["shelf / a 0 :1"] + ["pin closed a"] * 20
        self.assertEqual(len(read_log(ZS, text_of(lines))[0].claims), 20)
        self.refused(ParseError, read_log, ZS, text_of(lines + ["pin closed a"]), spot=21)
        self.refused(ParseError, read_log, ZS, text_of(["shelf / a 0 :" + str(LONGEST), "edit times a 2"]), spot=1)
        twelve = "shelf / " + " / ".join(f"a{k:02d} 0" for k in range(12))
        self.assertEqual(len(read_log(ZS, twelve + "\n")[0]), 12)
        self.refused(ParseError, read_log, ZS, text_of([twelve, "edit put b 0"]), spot=1)
        nine = Floor.still(Group.round(9), (2,))
        self.refused(ParseError, read_log, nine, "shelf / a 3\n", spot=0)
        self.refused(ParseError, read_log, nine, "shelf\nedit put a 3\n", spot=1)
        self.assertEqual(len(read_log(Floor.still(V4, (2,)), "shelf / a 3\npin closed a\n")[0].claims), 1)


if __name__ == "__main__":
    unittest.main()
