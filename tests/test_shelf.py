"""A shelf: points 19.1 to 19.3."""

import random
import unittest

from examples import (C1, C2, C4, LONGEST, MIXED, NO_FLOORS, NO_NUMBERS, PLANE, Refusals, SIGN, SWAP,
                      TOO_LONG, TWIST, V4, WALL, WRONG, Z2, Z3, ZS, slow_change, some_row, tuples_of, wrong_rows)
from groupsover.base.floors import Floor
from groupsover.base.groups import Group
from groupsover.errors import InvalidFloor, InvalidOperation, InvalidRow, Refused, TooMany
from groupsover.house import shelf as house
from groupsover.house.shelf import Shelf, decide, edited, is_edit, is_paper, is_question
from groupsover.rows.closed import class_makers, is_source, is_test, source_of, test_for as bar_for, test_value as value_of_test
from groupsover.rows.rows import row_sum

FLOORS = (ZS, Z2, TWIST, SWAP, MIXED, Z3, PLANE, Floor.still(V4, (0, 2)), SIGN, Floor.still(C4, (4,)), Floor.still(C1, (0, 3)),
          WALL)
NO_NAMES = WRONG[:3] + ("", "A", "0a", "ninechars", "a b", "a-", "a_", "_a", "aB", "a\n", "a ", " a", "a.", 1, None, ("a",), C2)
NAMES = ("a", "b", "z", "a0", "row1", "zzzzzzzz", "a1234567", "closed", "put")
PLAIN = {"a": (1, {(1,): (4,)}), "b": (0, {(): (2,)}), "c": (1, {(1,): (3,)}), "o": (1, {(0,): (1,)}),
         "t": (2, {(1, 1): (5,)}), "n": (1, {})}


def zero(floor):
    return (0,) * floor.places


def added(floor, row, times, further):
    """A row and so many times a further one, however long its integers are."""
    found = {}
    for members in sorted(set(row) | set(further)):
        value = tuple(x + times * y for x, y in zip(row.get(members, zero(floor)), further.get(members, zero(floor))))
        value = tuple(entry % rest if rest else entry for entry, rest in zip(value, floor.rests))
        if any(value):
            found[members] = value
    return found


def is_closed_row(floor, step, row):
    return not known_change(floor, step, row)


def known_change(floor, step, row, known={}):
    """The change, which is reckoned once for each row."""
    key = (floor.rests, floor.tables, step, tuple(sorted(row.items())))
    if key not in known:
        known[key] = slow_change(floor, step, row)
    return known[key]


def is_about(floor, named, question):
    """Whether a question by its form is one about named rows, by the table's words."""
    if not all(name in named for name in question[1:]):
        return False
    if question[0] == "closed":
        return True
    pairs = [named[name] for name in question[1:]]
    return pairs[0][0] > 0 and len({step for step, _ in pairs}) == 1 and all(is_closed_row(floor, *pair) for pair in pairs)


def slow_verdict(floor, named, question):
    """The verdict on a question, by the functions of closed rows."""
    step, row = named[question[1]]
    if question[0] == "closed":
        return is_closed_row(floor, step, row)
    if question[0] == "alike":
        row = added(floor, row, -1, named[question[2]][1])
    return source_of(floor, step, row) is not None


def slow_paper(floor, named, question, verdict, paper):
    """Whether something is a paper, by the table's words."""
    if verdict != slow_verdict(floor, named, question):
        return False
    step, row = named[question[1]]
    if question[0] == "closed":
        return paper == () if verdict else paper in list(known_change(floor, step, row))
    if question[0] == "alike":
        row = added(floor, row, -1, named[question[2]][1])
    if verdict:
        return is_source(floor, step, row, paper)
    return is_test(floor, step, paper) and value_of_test(floor, step, paper, row) != (0, 1)


class Book:
    """Named rows that are edited by the words of the document."""

    def __init__(self, floor, named):
        self.floor, self.named = floor, dict(named)

    def word(self, edit):
        """Do an edit; the word for which it is refused."""
        floor, named = self.floor, self.named
        names = {"put": (), "drop": edit[1:], "add": edit[1:], "times": edit[1:2], "change": edit[1:], "by": edit[1:]}[edit[0]]
        if any(name not in named for name in names):
            return "unknown"
        if edit[0] == "put" and edit[1] not in named and len(named) == 12:
            return "many"
        if edit[0] == "drop":
            del named[edit[1]]
            return None
        if edit[0] in ("add", "by"):
            if named[edit[1]][0] - named[edit[2]][0] != (1 if edit[0] == "by" else 0):
                return "steps"
        if edit[0] == "put":
            step, row = edit[2], edit[3]
        else:
            step, row = named[edit[1]]
        if edit[0] == "change":
            step += 1
        if step > 3 or floor.group.size ** (step + 1) > 5000:
            return "great"
        if edit[0] == "change":
            row = slow_change(floor, step - 1, row)
        elif edit[0] == "times":
            row = added(floor, {}, edit[2], row)
        elif edit[0] == "add":
            row = added(floor, row, 1, named[edit[2]][1])
        elif edit[0] == "by":
            row = added(floor, row, 1, slow_change(floor, step - 1, named[edit[2]][1]))
        if any(abs(entry) > LONGEST for value in row.values() for entry in value):
            return "great"
        named[edit[1]] = (step, row)
        return None


def some_named(floor, seed, many=6):
    """Named rows: some open, some closed, some changes."""
    source, found = random.Random(seed), {}
    for name in ("a", "b", "c", "d", "e", "f")[:many]:
        step = source.randint(0, 2)
        kind = source.choice(("any", "change", "closed", "none"))
        row = {} if kind == "none" else some_row(floor, step, 5, source.random())
        if kind in ("change", "closed") and step:
            row = slow_change(floor, step - 1, some_row(floor, step - 1, 5, source.random()))
        if kind == "closed" and step and (floor.group.size - 1) ** (step + 1) * floor.places <= 300:
            for maker in class_makers(floor, step)[:1]:
                row = added(floor, row, 1, maker)
        found[name] = (step, row)
    return found


def some_edit(floor, source, named, most=2):
    """An edit, mostly one that can be done."""
    names = sorted(named) + ["x", "y"]
    word = source.choice(("put", "drop", "add", "times", "change", "by", "put", "by", "add"))
    one, other = source.choice(names), source.choice(names)
    if word in ("add", "by") and source.random() < 0.7:
        gap = 1 if word == "by" else 0
        fitting = [(a, b) for a in sorted(named) for b in sorted(named) if named[a][0] - named[b][0] == gap]
        one, other = source.choice(fitting or [(one, other)])
    if word == "put":
        step = source.randint(0, most)
        row = some_row(floor, step, 5, source.random())
        if step and source.random() < 0.6:
            row = slow_change(floor, step - 1, some_row(floor, step - 1, 5, source.random()))
        return (word, one, step, row)
    if word == "times":
        return (word, one, source.choice((-1, 0, 1, 2, 3, 10 ** 20)))
    return (word, one, other) if word in ("add", "by") else (word, one)


def some_question(source, named):
    """A question by its form, mostly one about the rows."""
    names = sorted(named) + ["x"]
    word = source.choice(("closed", "change", "alike"))
    return (word, source.choice(names)) + ((source.choice(names),) if word == "alike" else ())


class QuestionTest(Refusals, unittest.TestCase):
    def test_constants(self):
        self.assertEqual((house.MAX_NAMED, house.MAX_CLAIMS, house.MAX_EDITIONS, house.MAX_EDITS), (12, 20, 40, 10))

    def test_forms(self):
        for name in NAMES:
            for question in (("closed", name), ("change", name), ("alike", name, "a"), ("alike", "a", name), ("alike", name, name)):
                self.assertIs(is_question(question), True)
                self.assertIs(is_question(list(question)), False)
                self.assertIs(is_question(question + ("a",)), False)
                self.assertIs(is_question(question[:-1]), False)
        for name in NO_NAMES:
            for question in (("closed", name), ("change", name), ("alike", name, "a"), ("alike", "a", name)):
                self.assertIs(is_question(question), False)
        for value in WRONG + ((), ("closed",), ("is", "a"), ("Closed", "a"), (None, "a"), (1, "a"), (("closed",), "a"), "closed a",
                              ([], "a"), ({}, "a"), (C2, "a"), ("closed", "a", "b"), ("alike", "a"), ("by", "a", "b")):
            self.assertIs(is_question(value), False)

    def test_decided(self):
        told = {}
        for at, floor in enumerate(FLOORS):
            for seed in range(20 * at, 20 * at + 6):
                named, source = some_named(floor, seed), random.Random(seed)
                asked = {some_question(source, named) for _ in range(30)}
                for question in sorted(asked):
                    if not is_about(floor, named, question):
                        self.refused(InvalidOperation, decide, floor, named, question)
                        self.refused(InvalidOperation, is_paper, floor, named, question, True, None)
                        told[question[0], None] = told.get((question[0], None), 0) + 1
                        continue
                    verdict, paper = decide(floor, named, question)
                    told[question[0], verdict] = told.get((question[0], verdict), 0) + 1
                    self.assertIs(verdict, slow_verdict(floor, named, question))
                    self.assertTrue(slow_paper(floor, named, question, verdict, paper))
                    self.assertIs(is_paper(floor, named, question, verdict, paper), True)
                    # never for the wrong verdict
                    self.assertIs(is_paper(floor, named, question, not verdict, paper), False)
                    for other in ((), {}, None, (0,), {(0,): (1,) * floor.places}, {(): (1,) * floor.places}):
                        for either in (verdict, not verdict) if other in ((), {}, None) else (verdict,):
                            self.assertIs(is_paper(floor, named, question, either, other),
                                          slow_paper(floor, named, question, either, other))
        self.assertEqual(len(told), 9)
        self.assertGreater(min(told.values()), 8)

    def test_papers(self):
        self.assertEqual(decide(ZS, PLAIN, ("closed", "a")), (True, ()))
        self.assertEqual(decide(ZS, PLAIN, ("change", "a")), (True, {(): (-2,)}))
        self.assertEqual(decide(ZS, PLAIN, ("change", "c")), (False, {(1,): ((1, 2),)}))
        self.assertEqual(decide(ZS, PLAIN, ("alike", "a", "c"))[0], False)
        self.assertEqual(decide(ZS, PLAIN, ("alike", "c", "c")), (True, {}))
        self.assertEqual(decide(ZS, PLAIN, ("closed", "b")), (False, (1,)))
        question = ("closed", "b")
        for value in WRONG + ((0,), (1, 1), (True,), [1], (2,), (-1,), (TOO_LONG,), ("1",), ((1,),), ZS, None):
            self.assertIs(is_paper(ZS, PLAIN, question, False, value), False)
        self.assertIs(is_paper(ZS, PLAIN, question, False, (1,)), True)
        for value in WRONG + ([], {}, (0,), None, ZS, ((),)):
            self.assertIs(is_paper(ZS, PLAIN, ("closed", "a"), True, value), False)
        for value in WRONG + ({(): (2,)}, {(): [-2]}, {(): (-2, 0)}, {(1,): (-2,)}, {(): (TOO_LONG,)}, (), ZS):
            self.assertIs(is_paper(ZS, PLAIN, ("change", "a"), True, value), False)
        for value in WRONG + ({(1,): ((1, 3),)}, {(1,): ((2, 4),)}, {(1,): ((0, 1),)}, {(0,): ((1, 2),)}, (), ZS):
            self.assertIs(is_paper(ZS, PLAIN, ("change", "c"), False, value), False)

    def test_all_tuples_of_open_rows(self):
        row = some_row(ZS, 2, 5, 1)
        change = slow_change(ZS, 2, row)
        for members in tuples_of(C2, 3):
            self.assertIs(is_paper(ZS, {"a": (2, row)}, ("closed", "a"), False, members), members in change)

    def test_wrong_arguments(self):
        right = {name: PLAIN[name] for name in ("a", "b")}
        no_named = WRONG[:-3] + tuple({name: (0, {})} for name in NO_NAMES if name is None or isinstance(name, (str, int))) + (
            {"a": {}}, {"a": (1,)}, {"a": [1, {}]}, {"a": (1, {}, 0)}, {"a": (4, {})}, {"a": (-1, {})}, {"a": (True, {})},
            {"a": (None, {})}, {"a": (TOO_LONG, {})}, {"a": ("1", {})}, {"a": None}, {"a": ()}, (("a", (0, {})),), Shelf(ZS), ZS,
            {f"a{k}": (0, {}) for k in range(13)}) + tuple({"b": right["b"], "a": (1, row)} for row in wrong_rows(ZS, 1))
        no_named = tuple(value for value in no_named if value != {})
        no_questions = WRONG + ((), ("closed", "x"), ("change", "b"), ("closed",), ("alike", "a", "b"), ["closed", "a"], "closed a")
        self.refuse_in_order(decide, (ZS, right, ("closed", "a")), [
            (0, NO_FLOORS, InvalidFloor), (1, no_named, InvalidRow), (2, no_questions, InvalidOperation)])
        self.refuse_in_order(is_paper, (ZS, right, ("closed", "a"), True, ()), [
            (0, NO_FLOORS, InvalidFloor), (1, no_named, InvalidRow), (2, no_questions, InvalidOperation),
            (3, (None, 0, 1, "True", (), [], {}, (True,), C2), InvalidOperation)])
        edits = (("drop", "a"),)
        no_edits = WRONG + ((), [("drop", "a")], ("drop", "a"), edits * 11, (None,), (("drop",),), (("drop", "A"),), edits + (1,))
        self.refuse_in_order(edited, (ZS, right, edits), [
            (0, NO_FLOORS, InvalidFloor), (1, no_named, InvalidRow), (2, no_edits, InvalidOperation)])
        self.refuse_in_order(Shelf, (ZS, right), [
            (0, NO_FLOORS, InvalidFloor), (1, tuple(value for value in no_named if value is not None), InvalidRow)])
        self.refuse_in_order(is_edit, (ZS, None), [(0, NO_FLOORS, InvalidFloor)])
        self.assertEqual(len(edited(ZS, {f"a{k}": (0, {}) for k in range(12)}, (("times", "a1", 2),))), 12)

    def test_many_tuples(self):
        eight, nine = Floor.still(Group.round(8), (2,)), Floor.still(Group.round(9), (2,))
        self.assertEqual(decide(eight, {"a": (3, {})}, ("closed", "a")), (True, ()))
        self.refused(InvalidRow, decide, nine, {"a": (3, {})}, ("closed", "a"))
        self.assertEqual(decide(nine, {"a": (2, {})}, ("change", "a")), (True, {}))
        self.refused(InvalidRow, Shelf, Floor.still(Group.round(18), (2,)), {"a": (2, {})})
        self.assertEqual(len(Shelf(Floor.still(Group.round(17), (2,)), {"a": (2, {})})), 1)

    def test_long_papers(self):
        # the source of this row is too long, and each one is
        floor = Floor.made(C2, (0, 0), {1: ((1, 10 ** 40), (0, -1))})
        row = slow_change(floor, 0, {(): (0, 10 ** 19)})
        self.assertEqual(decide(floor, {"a": (1, row)}, ("change", "a"))[0], True)
        long = Floor.made(C2, (0, 0), {1: ((0, 1), (1, 0))})
        row = {(1,): (LONGEST, -LONGEST)}
        verdict, paper = decide(long, {"a": (1, row)}, ("change", "a"))
        self.assertTrue(verdict and is_source(long, 1, row, paper))
        # the difference of both has 61 digits
        named = {"a": (1, {(1,): (LONGEST,)}), "b": (1, {(1,): (-LONGEST,)})}
        self.assertEqual(decide(ZS, named, ("alike", "a", "b")), (True, {(): (-LONGEST,)}))
        self.assertIs(is_paper(ZS, named, ("alike", "a", "b"), True, {(): (-LONGEST,)}), True)
        many = Floor.still(C2, (0,))
        named = {"a": (2, {(1, 1): (LONGEST,)}), "b": (2, {(1, 1): (-LONGEST + 1,)})}
        verdict, paper = decide(many, named, ("alike", "a", "b"))
        self.assertIs(verdict, False)
        self.assertIs(is_paper(many, named, ("alike", "a", "b"), False, paper), True)


class EditTest(Refusals, unittest.TestCase):
    def test_forms(self):
        right = (("put", "a", 1, {(1,): (3,)}), ("put", "a", 0, {}), ("put", "a", 3, {(1, 1, 1): (LONGEST,)}), ("drop", "a"),
                 ("add", "a", "b"), ("add", "a", "a"), ("times", "a", 0), ("times", "a", -LONGEST), ("change", "a"), ("by", "a", "b"))
        for edit in right:
            self.assertIs(is_edit(ZS, edit), True)
            for wrong in (list(edit), edit + ("a",), edit[:-1], edit[1:], (edit[0].upper(),) + edit[1:], (None,) + edit[1:],
                          (1,) + edit[1:], ((),) + edit[1:], ([],) + edit[1:]):
                self.assertIs(is_edit(ZS, wrong), False)
            for name in NO_NAMES:
                self.assertIs(is_edit(ZS, (edit[0], name) + edit[2:]), False)
                if edit[0] in ("add", "by"):
                    self.assertIs(is_edit(ZS, edit[:2] + (name,)), False)
        for value in NO_NUMBERS + (4, -1):
            self.assertIs(is_edit(ZS, ("put", "a", value, {})), False)
        for value in NO_NUMBERS:
            self.assertIs(is_edit(ZS, ("times", "a", value)), False)
        for value in wrong_rows(ZS, 1):
            self.assertIs(is_edit(ZS, ("put", "a", 1, value)), False)
        for value in WRONG + ((), ("drop",), "drop a", C2, (C2, "a"), ("pin", "a")):
            self.assertIs(is_edit(ZS, value), False)
        # a step that is too great for the group is refused only when it is put
        nine = Floor.still(Group.round(9), (2,))
        self.assertIs(is_edit(nine, ("put", "a", 3, {(1, 2, 3): (1,)})), True)
        self.refused(Refused, edited, nine, {}, (("put", "a", 3, {}),), reason=("edit", 0, "great"))

    def test_edited_by_a_book(self):
        told = {}
        for at, floor in enumerate(FLOORS):
            for seed in range(20 * at, 20 * at + 16):
                source, named = random.Random(seed), some_named(floor, seed)
                edits = tuple(some_edit(floor, source, named) for _ in range(source.randint(1, 5)))
                book, words = Book(floor, named), []
                for edit in edits:
                    words.append(book.word(edit))
                    told[edit[0], words[-1]] = told.get((edit[0], words[-1]), 0) + 1
                    if words[-1]:
                        break
                before = repr(named)
                if words[-1]:
                    self.refused(Refused, edited, floor, named, edits, reason=("edit", len(words) - 1, words[-1]))
                else:
                    found = edited(floor, named, edits)
                    self.assertEqual(found, book.named)
                    self.assertEqual(list(found), sorted(found))
                    for _, row in found.values():
                        self.assertEqual(list(row), sorted(row))
                self.assertEqual(repr(named), before)
        for key in (("put", None), ("drop", None), ("add", None), ("times", None), ("change", None), ("by", None),
                    ("add", "steps"), ("by", "steps"), ("add", "unknown"), ("drop", "unknown")):
            self.assertGreater(told[key], 3, key)

    def test_words(self):
        full = {f"a{k}": (1, {(1,): (4,)}) for k in range(12)}
        big = Floor.still(Group.round(9), (2,))
        far = {"a": (1, {(1,): (LONGEST,)}), "b": (1, {(1,): (1,)}), "c": (3, {}), "d": (0, {(): (LONGEST,)})}
        cases = [(ZS, {}, ("drop", "a"), "unknown"), (ZS, PLAIN, ("add", "a", "x"), "unknown"),
                 (ZS, PLAIN, ("add", "x", "a"), "unknown"), (ZS, PLAIN, ("by", "a", "x"), "unknown"),
                 (ZS, PLAIN, ("times", "x", 0), "unknown"), (ZS, PLAIN, ("change", "x"), "unknown"),
                 (ZS, full, ("put", "b", 0, {}), "many"), (big, {f"a{k}": (0, {}) for k in range(12)}, ("put", "b", 3, {}), "many"),
                 (big, {f"a{k}": (0, {}) for k in range(12)}, ("put", "a1", 3, {}), "great"),
                 (ZS, PLAIN, ("add", "a", "b"), "steps"), (ZS, PLAIN, ("by", "a", "c"), "steps"), (ZS, PLAIN, ("by", "b", "a"), "steps"),
                 (ZS, PLAIN, ("by", "t", "b"), "steps"), (ZS, PLAIN, ("by", "b", "b"), "steps"),
                 (ZS, far, ("change", "c"), "great"), (ZS, far, ("add", "a", "b"), "great"), (ZS, far, ("times", "a", 2), "great"),
                 (ZS, far, ("change", "d"), "great"), (ZS, far, ("times", "b", LONGEST), None), (ZS, far, ("times", "a", -1), None),
                 (ZS, far, ("times", "a", 0), None), (ZS, far, ("add", "b", "b"), None), (big, {"a": (2, {})}, ("change", "a"), "great"),
                 (big, {"a": (1, {})}, ("change", "a"), None), (ZS, full, ("put", "a1", 3, {}), None),
                 (Floor.still(Group.round(8), (2,)), {"a": (2, {(1, 1): (1,)})}, ("change", "a"), None)]
        for floor, named, edit, word in cases:
            if word is None:
                self.assertEqual(edited(floor, named, (edit,)), book_after(floor, named, edit))
            else:
                self.refused(Refused, edited, floor, named, (edit,), reason=("edit", 0, word))
        # what is behind one edit is what the next one finds
        self.refused(Refused, edited, ZS, full, (("put", "a1", 0, {}), ("put", "b", 0, {})), reason=("edit", 1, "many"))
        self.assertEqual(len(edited(ZS, full, (("drop", "a1"), ("put", "b", 0, {})))), 12)
        self.refused(Refused, edited, ZS, PLAIN, (("drop", "a"), ("times", "a", 1)), reason=("edit", 1, "unknown"))
        self.refused(Refused, edited, ZS, far, (("times", "b", 3), ("times", "a", 2), ("drop", "x")), reason=("edit", 1, "great"))
        # a change that is too long on the way, and is not when it was added
        self.assertEqual(edited(ZS, {"a": (1, {(1,): (LONGEST,)}), "b": (0, {(): (LONGEST,)})}, (("by", "a", "b"),))["a"],
                         (1, {(1,): (-LONGEST,)}))


def book_after(floor, named, edit):
    book = Book(floor, named)
    assert book.word(edit) is None
    return book.named


class ShelfTest(Refusals, unittest.TestCase):
    def test_the_example(self):
        shelf = Shelf(ZS, {"a": (1, {(1,): (4,)}), "b": (0, {(): (2,)})})
        self.assertEqual([shelf.pin(("change", "a")), shelf.pin(("closed", "b")), shelf.claims[1], shelf.standing(1),
                          shelf.edit((("by", "a", "b"), ("change", "b")))],
                         [1, 2, (("closed", "b"), False, 1), ("stands", True, {(): (-2,)}), 2])

    def test_led_by_drawn_calls(self):
        words = {}
        for at, floor in enumerate(FLOORS):
            for seed in range(3):
                self.lead(floor, 5 * at + seed, words)
        for word in ("stands", "another", "fallen", "gone"):
            self.assertGreater(words[word], 30, word)

    def lead(self, floor, seed, words):
        source, named = random.Random(seed), some_named(floor, seed)
        shelf, book = Shelf(floor, named), Book(floor, named)
        editions, claims, history, twins = [dict(book.named)], [], [], []
        for turn in range(40):
            if source.random() < 0.4 and len(claims) < 20:
                question = some_question(source, book.named)
                if is_about(floor, book.named, question):
                    self.assertEqual(shelf.pin(question), len(claims) + 1)
                    claims.append((question, slow_verdict(floor, book.named, question), len(editions)))
                    history.append(("pin", question))
                else:
                    self.refused(InvalidOperation, shelf.pin, question)
            else:
                edits = tuple(some_edit(floor, source, book.named) for _ in range(source.randint(1, 3)))
                tried = Book(floor, book.named)
                refused = next(((index, word) for index, word in ((k, tried.word(edit)) for k, edit in enumerate(edits)) if word),
                               None)
                if refused:
                    self.refused(Refused, shelf.edit, edits, reason=("edit",) + refused)
                elif len(editions) < 40:
                    book = tried
                    editions.append(dict(book.named))
                    self.assertEqual(shelf.edit(edits), len(editions))
                    history.append(("edit", edits))
            self.same(shelf, floor, editions, claims, history)
            if turn % 13 == 5:
                twin = shelf.twin()
                self.assertTrue(twin == shelf and not twin != shelf)
                twins.append((twin, list(editions), list(claims), list(history)))
        for twin, *told in twins:
            self.same(twin, floor, *told)
        self.standings(shelf, floor, editions, claims, words)

    def same(self, shelf, floor, editions, claims, history):
        """A shelf is what a book tells."""
        self.assertEqual((shelf.floor, shelf.editions, shelf.claims, shelf.history),
                         (floor, len(editions), tuple(claims), tuple(history)))
        self.assertEqual(len(shelf), len(editions[-1]))
        self.assertEqual(str(shelf), f"shelf of {len(editions[-1])} rows, edition {len(editions)}")
        found = shelf.named_at()
        self.assertEqual(found, editions[-1])
        self.assertEqual(list(found), sorted(found))
        fallen = []
        for number, (question, verdict, _) in enumerate(claims, 1):
            if not is_about(floor, editions[-1], question) or slow_verdict(floor, editions[-1], question) != verdict:
                fallen.append(number)
        self.assertEqual(shelf.fallen, tuple(fallen))

    def standings(self, shelf, floor, editions, claims, words):
        """Each standing is what the words of the document tell."""
        for edition, named in enumerate(editions, 1):
            self.assertEqual(shelf.named_at(edition), named)
        for number, (question, pinned, first) in enumerate(claims, 1):
            ahead = None
            for edition in range(1, len(editions) + 1):
                if edition < first:
                    self.refused_number(shelf.standing, edition, number, edition)
                    continue
                word, verdict, paper = shelf.standing(number, edition)
                named = editions[edition - 1]
                if not is_about(floor, named, question):
                    self.assertEqual((word, verdict, paper), ("fallen", None, None))
                    words["gone"] = words.get("gone", 0) + 1
                else:
                    self.assertIs(verdict, slow_verdict(floor, named, question))
                    self.assertTrue(slow_paper(floor, named, question, verdict, paper))
                    kept = edition > first and ahead[1] is not None and slow_paper(floor, named, question, verdict, ahead[2])
                    wanted = "fallen" if verdict != pinned else "stands" if edition == first or kept else "another"
                    self.assertEqual(word, wanted)
                    if word == "stands" and edition > first:
                        self.assertEqual(paper, ahead[2])
                    words[word] = words.get(word, 0) + 1
                ahead = (word, verdict, paper)
            self.assertEqual(shelf.standing(number), shelf.standing(number, len(editions)))

    def test_empty_shelves(self):
        for shelf in (Shelf(ZS), Shelf(ZS, None), Shelf(ZS, {})):
            self.assertEqual((len(shelf), shelf.editions, shelf.claims, shelf.fallen, shelf.history, shelf.named_at()),
                             (0, 1, (), (), (), {}))
            self.assertEqual(str(shelf), "shelf of 0 rows, edition 1")
            self.assertTrue(shelf == Shelf(ZS))
            self.refused(InvalidOperation, shelf.pin, ("closed", "a"))

    def test_names_on_the_shelf(self):
        shelf = Shelf(ZS, PLAIN)
        self.assertTrue("a" in shelf and "t" in shelf and "x" not in shelf)
        shelf.edit((("drop", "a"), ("put", "x", 0, {})))
        self.assertTrue("a" not in shelf and "x" in shelf)
        for value in WRONG + ((), ("x",), C2, shelf, [[]], {"x": 1}):
            self.assertFalse(value in shelf)
        with self.assertRaises(TypeError):
            iter(shelf)

    def test_equal(self):
        one, other = Shelf(ZS, PLAIN), Shelf(ZS, dict(reversed(list(PLAIN.items()))))
        self.assertTrue(one == other and not one != other)
        one.edit((("times", "a", 1),))
        self.assertTrue(one != other)
        other.edit((("put", "a", 1, {(1,): (4,)}),))
        # alike in editions and claims, unlike in history
        self.assertTrue(one == other and one.history != other.history)
        one.pin(("closed", "a"))
        self.assertTrue(one != other)
        other.pin(("closed", "a"))
        self.assertTrue(one == other)
        for value in WRONG + (C2, ZS, PLAIN, Shelf(Floor.still(C2, (0,)), {})):
            self.assertTrue(one != value and not one == value)
        self.assertFalse(Shelf(Floor.still(C2, (0,))) == Shelf(ZS))

    def test_what_is_passed_and_told_stays(self):
        row = {(1,): (4,)}
        named = {"a": (1, row)}
        shelf = Shelf(ZS, named)
        row[(1,)] = (6,)
        named["b"] = (0, {})
        self.assertEqual(shelf.named_at(), {"a": (1, {(1,): (4,)})})
        put = {(): (3,)}
        shelf.edit((("put", "b", 0, put),))
        put[()] = (5,)
        self.assertEqual(shelf.named_at()["b"], (0, {(): (3,)}))
        self.assertEqual(shelf.history, (("edit", (("put", "b", 0, {(): (3,)}),)),))
        shelf.history[0][1][0][3][()] = (9,)
        shelf.named_at()["b"][1][()] = (9,)
        shelf.pin(("change", "a"))
        shelf.standing(1)[2][()] = (9,)
        self.assertEqual(shelf.named_at()["b"], (0, {(): (3,)}))
        self.assertEqual(shelf.history[0], ("edit", (("put", "b", 0, {(): (3,)}),)))
        self.assertEqual(shelf.standing(1), ("stands", True, {(): (-2,)}))
        found = edited(ZS, PLAIN, (("drop", "b"),))
        found["a"][1][(1,)] = (9,)
        self.assertEqual(PLAIN["a"], (1, {(1,): (4,)}))
        paper = decide(ZS, PLAIN, ("change", "a"))[1]
        paper[()] = (9,)
        self.assertEqual(decide(ZS, PLAIN, ("change", "a"))[1], {(): (-2,)})
        # rows are told in order
        shelf = Shelf(ZS, {"b": (2, {(1, 1): (1,), (0, 1): (2,)}), "a": (0, {})})
        self.assertEqual(list(shelf.named_at()), ["a", "b"])
        self.assertEqual(list(shelf.named_at()["b"][1]), [(0, 1), (1, 1)])
        shelf.edit((("put", "c", 2, {(1, 1): (1,), (0, 1): (2,)}),))
        self.assertEqual(list(shelf.history[0][1][0][3]), [(0, 1), (1, 1)])

    def test_twins(self):
        shelf = Shelf(ZS, PLAIN)
        shelf.pin(("closed", "a"))
        twin = shelf.twin()
        twin.edit((("drop", "a"),))
        twin.pin(("closed", "b"))
        self.assertEqual((shelf.editions, len(shelf.claims), len(shelf.history), shelf.fallen), (1, 1, 1, ()))
        self.assertEqual((twin.editions, len(twin.claims), len(twin.history), twin.fallen), (2, 2, 3, (1,)))
        shelf.edit((("times", "a", 2),))
        self.assertEqual(twin.named_at(2), {name: pair for name, pair in PLAIN.items() if name != "a"})
        self.assertEqual(shelf.named_at(2)["a"], (1, {(1,): (8,)}))

    def test_limits(self):
        shelf = Shelf(ZS, {"a": (1, {(1,): (1,)})})
        for number in range(2, 41):
            self.assertEqual(shelf.edit((("times", "a", -1),)), number)
        self.refused(TooMany, shelf.edit, (("times", "a", -1),), limit=40)
        self.refused(Refused, shelf.edit, (("times", "x", -1),), reason=("edit", 0, "unknown"))
        self.refused(InvalidOperation, shelf.edit, ())
        self.assertEqual((shelf.editions, len(shelf.history), shelf.named_at(40)), (40, 39, {"a": (1, {(1,): (-1,)})}))
        for number in range(1, 21):
            self.assertEqual(shelf.pin(("closed", "a")), number)
        self.refused(TooMany, shelf.pin, ("closed", "a"), limit=20)
        self.refused(InvalidOperation, shelf.pin, ("closed", "x"))
        self.assertEqual((len(shelf.claims), len(shelf.history)), (20, 59))
        ten = Shelf(ZS, {"a": (1, {(1,): (1,)})})
        self.assertEqual(ten.edit((("times", "a", 2),) * 10), 2)
        self.assertEqual(ten.named_at()["a"][1], {(1,): (1024,)})
        self.refused(InvalidOperation, ten.edit, (("times", "a", 2),) * 11)

    def test_wrong_arguments(self):
        shelf = Shelf(ZS, PLAIN)
        shelf.edit((("times", "a", 2),))
        shelf.pin(("closed", "a"))
        shelf.edit((("times", "a", 2),))
        before = (shelf.twin(), shelf.history)
        for value in WRONG + ((), [("drop", "a")], (("drop", "A"),), ("drop", "a")):
            self.refused(InvalidOperation, shelf.edit, value)
        for value in WRONG + ((), ("closed", "x"), ("closed",), ["closed", "a"], ("change", "b"), ("alike", "a", "b")):
            self.refused(InvalidOperation, shelf.pin, value)
        numbers = tuple(value for value in NO_NUMBERS if value is not None)
        for value in numbers + (0, -1, 4):
            self.refused_number(shelf.named_at, value, value)
            self.refused_number(shelf.standing, value, 1, value)
        for value in NO_NUMBERS + (0, -1, 2):
            self.refused_number(shelf.standing, value, value)
            self.refused_number(shelf.standing, value, value, 99)
        # an edition ahead of the pinning
        self.refused_number(shelf.standing, 1, 1, 1)
        self.assertEqual(shelf.standing(1, 2), ("stands", True, ()))
        self.assertEqual(shelf.standing(1, None), ("stands", True, ()))
        self.assertEqual(shelf.named_at(None), shelf.named_at(3))
        self.assertEqual((shelf.twin() == before[0], shelf.history), (True, before[1]))

    def test_standings(self):
        shelf = Shelf(ZS, {"a": (1, {(1,): (4,)}), "b": (0, {(): (3,)})})
        shelf.pin(("change", "a"))
        shelf.pin(("closed", "b"))
        shelf.edit((("by", "a", "b"),))
        self.assertEqual(shelf.standing(1), ("another", True, {(): (1,)}))
        shelf.edit((("times", "b", 5),))
        self.assertEqual(shelf.standing(1), ("stands", True, {(): (1,)}))
        self.assertEqual(shelf.standing(2), ("stands", False, (1,)))
        shelf.edit((("put", "a", 1, {(1,): (3,)}),))
        self.assertEqual(shelf.standing(1), ("fallen", False, {(1,): ((1, 2),)}))
        self.assertEqual(shelf.fallen, (1,))
        shelf.edit((("put", "a", 1, {(0,): (3,)}),))
        self.assertEqual(shelf.standing(1), ("fallen", None, None))
        shelf.edit((("put", "a", 1, {(1,): (-2,)}), ("put", "b", 0, {})))
        # the paper of the edition ahead is none, so there is another one
        self.assertEqual(shelf.standing(1), ("another", True, {(): (1,)}))
        self.assertEqual(shelf.standing(2), ("fallen", True, ()))
        self.assertEqual(shelf.fallen, (2,))
        self.assertEqual([shelf.standing(1, edition)[0] for edition in range(1, 7)],
                         ["stands", "another", "stands", "fallen", "fallen", "another"])
        shelf.edit((("drop", "b"),))
        self.assertEqual(shelf.standing(2), ("fallen", None, None))

    def test_by_and_change(self):
        for at, floor in enumerate(FLOORS):
            for seed in range(10 * at, 10 * at + 6):
                named, source = some_named(floor, seed), random.Random(seed)
                shelf = Shelf(floor, named)
                for question in sorted({some_question(source, named) for _ in range(30)})[:20]:
                    if is_about(floor, named, question):
                        shelf.pin(question)
                before = [shelf.standing(number) for number in range(1, len(shelf.claims) + 1)]
                pairs = [(a, b) for a in named for b in named if named[a][0] == named[b][0] + 1]
                if pairs:
                    shelf.edit((("by",) + source.choice(pairs),))
                    self.assertEqual(shelf.fallen, ())
                    for number, (_, verdict, paper) in enumerate(before, 1):
                        if verdict is False:
                            self.assertEqual(shelf.standing(number), ("stands", False, paper))
                for name in named:
                    twin = shelf.twin()
                    if floor.group.size ** (named[name][0] + 2) > 300:
                        continue
                    twin.edit((("change", name),))
                    for number, (question, verdict, _) in enumerate(twin.claims, 1):
                        if question == ("closed", name) and verdict:
                            self.assertEqual(twin.standing(number)[0], "stands")

    def test_sixty_digits(self):
        shelf = Shelf(ZS, {"a": (1, {(1,): (LONGEST,)}), "b": (1, {(1,): (1,)})})
        self.refused(Refused, shelf.edit, (("times", "b", 3), ("add", "a", "b")), reason=("edit", 1, "great"))
        self.assertEqual((shelf.editions, shelf.named_at()["b"]), (1, (1, {(1,): (1,)})))
        shelf.edit((("times", "b", -1), ("add", "a", "b")))
        self.assertEqual(shelf.named_at()["a"], (1, {(1,): (LONGEST - 1,)}))
        shelf.pin(("alike", "a", "b"))
        self.assertEqual(shelf.standing(1)[0], "stands")
        self.assertEqual(bar_for(ZS, 1, {(1,): (LONGEST,)}), {(1,): ((1, 2),)})
        self.assertEqual(row_sum(ZS, 1, {(1,): (LONGEST - 1,)}, {(1,): (1,)}), {(1,): (LONGEST,)})


if __name__ == "__main__":
    unittest.main()
