"""A shell: points 20.3 to 20.5."""

import random
import re
import unittest

from examples import C2, LONGEST, PLANE, Refusals, TOO_LONG, TWIST, V4, WRONG, Z2, ZS
from groupsover.base.floors import Floor
from groupsover.base.groups import Group
from groupsover.errors import InvalidOperation, OverError, Refused, TooMany
from groupsover.house.log import log_text
from groupsover.house.shelf import Shelf, decide, is_paper
from groupsover.rows.closed import class_list, class_order
from groupsover.text import shell as told_shell
from groupsover.text.shell import Shell
from groupsover.text.texts import read_row, read_value, write_row, write_value

NAME = re.compile("[a-z][a-z0-9]{0,7}")
INTEGER = re.compile("(0|-?[1-9][0-9]*)")
ENTRY = re.compile("((0|[1-9][0-9]*)(,(0|[1-9][0-9]*))*)?:(0|-?[1-9][0-9]*)(,(0|-?[1-9][0-9]*))*")
PLAIN = {"a": (1, {(1,): (4,)}), "b": (0, {(): (2,)}), "c": (1, {(1,): (3,)}), "o": (2, {(0, 1): (1,)})}
FLOORS = (ZS, Z2, TWIST, PLANE, Floor.still(V4, (0,)))


def forms_of(pieces):
    """What is wanted at each place of a line, by the document's table; None for a first word that is none."""
    questions = {"closed": [NAME], "change": [NAME], "alike": [NAME, NAME]}
    forms = {"put": [NAME, "=", INTEGER], "drop": [NAME], "add": [NAME, NAME], "times": [NAME, INTEGER], "change": [NAME],
             "by": [NAME, NAME], "stand": [INTEGER], "show": [NAME], "order": [NAME], "list": [INTEGER], "names": []}
    if pieces[0] in ("ask", "pin"):
        if len(pieces) == 1:
            return [re.compile("closed|change|alike")]
        return [re.compile("closed|change|alike")] + questions.get(pieces[1], [])
    return forms.get(pieces[0])


def wrong_spot(line):
    """The index that the answer to a line tells, None if nothing is wrong with its form."""
    found = [(spot.start(), spot.group()) for spot in re.finditer("[^ ]+", line)]
    pieces = [piece for _, piece in found]
    form = forms_of(pieces)
    if form is None:
        return found[0][0]
    for at, (spot, piece) in enumerate(found[1:]):
        wanted = form[at] if at < len(form) else ENTRY if pieces[0] == "put" else None
        if wanted is None or (piece != wanted if isinstance(wanted, str) else not wanted.fullmatch(piece)):
            return spot
    return len(line) if len(found) - 1 < len(form) else None


def slow_answer(shelf, line):
    """The answer to a line whose form is right, by calls of a shelf."""
    pieces = line.split()
    word, behind = pieces[0], pieces[1:]
    named = shelf.named_at()
    try:
        if word == "put":
            entries = []
            for piece in pieces[4:]:
                head, tail = piece.split(":")
                entries.append((tuple(map(int, head.split(","))) if head else (), tuple(map(int, tail.split(",")))))
            if any(one[0] >= other[0] for one, other in zip(entries, entries[1:])):
                return "invalid"
            return f"edition {shelf.edit((('put', behind[0], int(behind[2]), dict(entries)),))}"
        if word == "times":
            return f"edition {shelf.edit((('times', behind[0], int(behind[1])),))}"
        if word in ("drop", "add", "change", "by"):
            return f"edition {shelf.edit((tuple(pieces),))}"
        if word == "ask":
            verdict, paper = decide(shelf.floor, named, tuple(behind))
            return f"{'yes' if verdict else 'no'} {write_value(paper)}"
        if word == "pin":
            return f"claim {shelf.pin(tuple(behind))}"
        if word == "stand":
            return shelf.standing(int(behind[0]))[0]
        if word == "list":
            return write_value(class_list(shelf.floor, int(behind[0])))
        if word == "names":
            return " ".join(sorted(named))
        if behind[0] not in named:
            return "invalid"
        return write_row(shelf.floor, *named[behind[0]]) if word == "show" else str(class_order(shelf.floor, *named[behind[0]]))
    except Refused as error:
        return f"refused {error.reason[-1]}"
    except TooMany as error:
        return f"too many {error.limit}"
    except (OverError, IndexError):
        return "invalid"


def some_line(floor, source, named):
    """A line, mostly one of the table."""
    names = sorted(named) + ["x", "y9"]
    name, other = source.choice(names), source.choice(names)
    word = source.choice(("put", "put", "drop", "add", "times", "change", "by", "by", "ask", "ask", "pin", "stand", "show", "order",
                          "list", "names"))
    integer = str(source.choice((0, 1, 2, 3, 4, -1, 7)))
    if word == "put":
        step = source.randint(0, 2)
        entries = []
        for _ in range(source.randint(0, 3)):
            members = ",".join(str(source.randrange(floor.group.size)) for _ in range(step))
            entries.append(members + ":" + ",".join(str(source.randint(0, 2)) for _ in range(floor.places)))
        line = " ".join([word, name, "=", str(step)] + sorted(entries))
    elif word in ("ask", "pin"):
        kind = source.choice(("closed", "change", "alike"))
        line = f"{word} {kind} {name}" + (f" {other}" if kind == "alike" else "")
    elif word in ("add", "by"):
        line = f"{word} {name} {other}"
    elif word == "times":
        line = f"times {name} {integer}"
    elif word in ("stand", "list"):
        line = f"{word} {integer}"
    else:
        line = word if word == "names" else f"{word} {name}"
    if source.random() < 0.3:
        at = source.randrange(len(line) + 1)
        sign = source.choice(" a0:,=-!~A")
        line = source.choice((line[:at] + sign + line[at:], line[:at] + line[at + 1:], line[:at], line + " x", "  " + line + " "))
    return line


class ShellTest(Refusals, unittest.TestCase):
    def test_constants_and_texts(self):
        self.assertEqual(told_shell.MAX_LINE, 2000)
        shell = Shell(Shelf(ZS))
        self.assertEqual((shell.said, str(shell)), (0, "shell, 0 lines said"))
        shell.say("names")
        self.assertEqual((shell.said, str(shell)), (1, "shell, 1 lines said"))
        with self.assertRaises(TypeError):
            iter(shell)

    def test_lines(self):
        shelf = Shelf(ZS, PLAIN)
        shell = Shell(shelf)
        for line, wanted in (
                ("", ""), ("    ", ""), ("names", "a b c o"), ("show a", "1 1:4"), ("show b", "0 :2"), (" show  o ", "2 0,1:1"),
                ("order a", "1"), ("order c", "2"), ("order b", "invalid"), ("order o", "refused open"), ("order x", "invalid"),
                ("show x", "invalid"), ("list 0", "()"), ("list 1", "(2)"), ("list 2", "()"), ("list 4", "()"), ("list 5", "invalid"),
                ("list -1", "invalid"), ("ask closed a", "yes ()"), ("ask closed b", "no (1)"), ("ask change a", "yes {():(-2)}"),
                ("ask change c", "no {(1):((1 2))}"), ("ask alike a a", "yes {}"), ("ask alike a b", "invalid"),
                ("ask closed x", "invalid"), ("ask change b", "invalid"), ("pin closed b", "claim 1"), ("pin change c", "claim 2"),
                ("pin change x", "invalid"), ("stand 1", "stands"), ("stand 3", "invalid"), ("stand 0", "invalid"),
                ("put d = 1 1:-7", "edition 2"), ("show d", "1 1:-7"), ("put d = 0", "edition 3"), ("show d", "0"),
                ("put d = 2 0,1:1 1,1:-3", "edition 4"), ("put d = 2 1,1:1 0,1:1", "invalid"), ("put d = 1 1:0", "invalid"),
                ("put d = 1 2:1", "invalid"), ("put d = 4", "invalid"), ("put d = -1", "invalid"), ("put d = 1 1:1,1", "invalid"),
                ("times b -1", "edition 5"), ("show b", "0 :-2"), ("by a b", "edition 6"), ("show a", "1 1:8"), ("stand 1", "stands"),
                ("change b", "edition 7"), ("show b", "1 1:4"), ("stand 1", "fallen"), ("add a b", "edition 8"), ("show a", "1 1:12"),
                ("add a d", "refused steps"), ("by a b", "refused steps"), ("drop d", "edition 9"), ("drop d", "refused unknown"),
                ("add a d", "refused unknown"), ("change d", "refused unknown"), ("times d 1", "refused unknown"),
                ("by d a", "refused unknown"), (f"times a {LONGEST}", "refused great"), (f"times a {TOO_LONG}", "invalid"),
                (f"stand {TOO_LONG}", "invalid"), ("list " + "9" * 1900, "invalid"), ("put d = 1 1:" + "9" * 1900, "invalid"),
                ("put d = " + "9" * 1900, "invalid"), ("names", "a b c o"), ("put closed = 0 :5", "edition 10"),
                ("ask closed closed", "no (1)"), ("drop closed", "edition 11")):
            self.assertEqual(shell.say(line), wanted, line)
        self.assertEqual(shelf.editions, 11)

    def test_wrong_lines(self):
        shelf = Shelf(ZS, PLAIN)
        shell = Shell(shelf)
        cases = (("x", 0), ("  x", 2), ("Names", 0), ("names x", 6), ("show", 4), ("show ", 5), (" show  ", 7), ("show A", 5), ("show a b", 7),
                 ("show ninechars", 5), ("show 1", 5), ("drop", 4), ("drop a b", 7), ("add a", 5), ("add a  ", 7), ("add a B", 6), ("add a b c", 8),
                 ("times a", 7), ("times a b", 8), ("times a 01", 8), ("times a -0", 8), ("times a 1 2", 10), ("times 1 a", 6), ("put", 3), ("put a", 5),
                 ("put a b", 6), ("put a =", 7), ("put a = b", 8), ("put a = 1 x", 10), ("put a = 1 1:1 x", 14), ("put a = 1 1:1 1:1:1", 14),
                 ("put a = 1 1", 10), ("put a 1 1:1", 6), ("put = = 1", 4), ("put a == 1", 6), ("put a =1", 6), ("put a = 1 -1:1", 10), ("ask", 3),
                 ("ask  ", 5), ("ask x", 4), ("ask closed", 10), ("ask closed A", 11), ("ask closed a b", 13), ("ask alike a", 11), ("ask alike a ", 12),
                 ("ask alike a b c", 14), ("pin", 3), ("pin a", 4), ("pin change", 10), ("stand", 5), ("stand x", 6), ("stand 1 1", 8), ("stand +1", 6),
                 ("list", 4), ("list x", 5), ("list 1,1", 5), ("order", 5), ("order ~", 6), ("by a", 4), ("change", 6), ("change a b", 9), ("a = 1", 0),
                 ("edit drop a", 0), ("ask closed  a  b", 15), ("closed a", 0), ("put a = 1 1:1\\", 10), ("show \"a\"", 5), ("names;", 0),
                 ("put a = 1 1:1 2:" + "0" * 30, 14))
        for line, spot in cases:
            self.assertEqual(wrong_spot(line), spot, line)
            self.assertEqual(shell.say(line), f"wrong at {spot}")
        self.assertEqual((shelf.editions, shelf.claims, shelf.named_at()), (1, (), PLAIN))
        self.assertEqual(shell.said, len(cases))

    def test_drawn_lines(self):
        answers = {}
        for at, floor in enumerate(FLOORS):
            for seed in range(12):
                source, shelf = random.Random(100 * at + seed), Shelf(floor)
                twin, shell = shelf.twin(), Shell(shelf)
                for turn in range(80):
                    line = some_line(floor, source, shelf.named_at())
                    found = shell.say(line)
                    if not line.strip(" "):
                        wanted = ""
                    elif wrong_spot(line) is not None:
                        wanted = f"wrong at {wrong_spot(line)}"
                    else:
                        wanted = slow_answer(twin, line)
                    self.assertEqual(found, wanted, line)
                    self.assertTrue(shelf == twin and shelf.history == twin.history)
                    kind = found.split(" ")[0]
                    answers[kind] = answers.get(kind, 0) + 1
                    if line.startswith("ask") and kind in ("yes", "no"):
                        paper = read_value(found[len(kind) + 1:])
                        self.assertTrue(is_paper(floor, shelf.named_at(), tuple(line.split()[1:]), kind == "yes", paper))
                    if line.startswith("show") and kind.isdigit():
                        self.assertEqual(read_row(floor, found), shelf.named_at()[line.split()[1]])
                    self.assertEqual(shell.said, turn + 1)
                self.assertEqual(log_text(shelf), log_text(twin))
        for kind in ("edition", "claim", "yes", "no", "wrong", "refused", "invalid", "stands", "fallen"):
            self.assertGreater(answers.get(kind, 0), 5, kind)

    def test_limits(self):
        shelf = Shelf(ZS, {"a": (1, {(1,): (1,)})})
        shell = Shell(shelf)
        for number in range(2, 41):
            self.assertEqual(shell.say("times a -1"), f"edition {number}")
        self.assertEqual(shell.say("times a -1"), "too many 40")
        self.assertEqual(shell.say("drop x"), "refused unknown")
        for number in range(1, 21):
            self.assertEqual(shell.say("pin change a"), f"claim {number}")
        self.assertEqual(shell.say("pin change a"), "too many 20")
        self.assertEqual((shelf.editions, len(shelf.claims), shell.said), (40, 20, 62))
        self.assertEqual(Shell(Shelf(Floor.still(V4, (0,)))).say("list 4"), "(2 2 2)")
        self.assertEqual(Shell(Shelf(Floor.still(V4, (0, 2)))).say("list 4"), "too many 300")
        nine = Shell(Shelf(Floor.still(Group.round(9), (2,))))
        self.assertEqual([nine.say("put a = 3"), nine.say("put a = 2"), nine.say("change a"), nine.say("list 2")],
                         ["refused great", "edition 2", "refused great", "too many 300"])
        full = Shell(Shelf(ZS, {f"a{k}": (0, {}) for k in range(12)}))
        self.assertEqual([full.say("put b = 0"), full.say("put a1 = 0 :1")], ["refused many", "edition 2"])

    def test_wrong_arguments(self):
        for value in WRONG + (C2, ZS, PLAIN, (), Shell(Shelf(ZS))):
            self.refused(InvalidOperation, Shell, value)
        shelf = Shelf(ZS, PLAIN)
        shell = Shell(shelf)
        for value in (None, True, 1, (), [], {}, ("names",), " " * 2001, "names\n", "\tnames", "n\u00e4mes", "names\x7f", "\x00", C2, shelf):
            self.refused(InvalidOperation, shell.say, value)
            self.refused(InvalidOperation, shell.run, ("drop a", value))
            self.refused(InvalidOperation, shell.run, (value, "drop a"))
            if value not in ((), ("names",)):
                self.refused(InvalidOperation, shell.run, value)
        self.refused(InvalidOperation, shell.run, ["names"])
        self.refused(InvalidOperation, shell.run, "names")
        self.refused(InvalidOperation, shell.run, ("names",) * 41)
        self.assertEqual((shell.said, shelf.editions), (0, 1))
        self.assertEqual(shell.say(" " * 2000), "")
        self.assertEqual(shell.say("names" + " " * 1995), "a b c o")
        self.assertEqual(shell.say("show" + " " * 1996), "wrong at 2000")
        self.assertEqual(shell.said, 3)

    def test_run(self):
        shelf = Shelf(ZS, PLAIN)
        shell = Shell(shelf)
        lines = ("names", "", "drop a", "drop a", "x", "pin closed b", "names")
        self.assertEqual(shell.run(lines), ("a b c o", "", "edition 2", "refused unknown", "wrong at 0", "claim 1", "b c o"))
        self.assertEqual((shell.said, shell.run(())), (7, ()))
        self.assertEqual(shell.run(("stand 1",) * 40), ("stands",) * 40)
        self.assertEqual(shell.said, 47)

    def test_the_shelf_itself(self):
        shelf = Shelf(ZS, PLAIN)
        one, other = Shell(shelf), Shell(shelf)
        one.say("drop a")
        self.assertEqual((len(shelf), other.say("names"), other.said, one.said), (3, "b c o", 1, 1))
        shelf.edit((("put", "a", 0, {}),))
        self.assertEqual(one.say("names"), "a b c o")
        twin = Shell(shelf.twin())
        twin.say("drop b")
        self.assertEqual(one.say("names"), "a b c o")

    def test_sixty_digits(self):
        shell = Shell(Shelf(ZS))
        self.assertEqual(shell.run((f"put a = 1 1:{LONGEST}", "put b = 1 1:-1", "add a b", f"put a = 1 1:{-LONGEST}", "add a b",
                                    "times a 2", f"put c = 1 1:{TOO_LONG}", "ask change a", "show a")),
                         ("edition 2", "edition 3", "edition 4", "edition 5", "refused great", "refused great", "invalid",
                          "no {(1):((1 2))}", f"1 1:{-LONGEST}"))


if __name__ == "__main__":
    unittest.main()
