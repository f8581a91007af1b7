"""Answers that a shelf keeps: papers, standings and logs are as they were found at once: points 19.1 to 19.5, 20.3."""

import random
import unittest
from unittest.mock import patch

from examples import MIXED, PLANE, S3, SIGN, TWIST, V4, Z2, Z3, ZS, slow_change, some_row
from groupsover.base.floors import Floor
from groupsover.base.groups import Group
from groupsover.errors import InvalidOperation
from groupsover.house.answers import Answers
from groupsover.house.log import log_text, read_log
from groupsover.house.shelf import Shelf, decide, is_paper
from groupsover.text.shell import Shell
from groupsover.text.values import value_text
from test_shelf import some_edit, some_named, some_question

FOURS = Floor.still(Group(((1, 0, 2), (1, 2, 0))), (4, 4))
EDITS = ("put a = 1 1:1,0 4:2,0 5:3,1", "change a", "put b = 1 1:1,0 4:2,0", "put c = 1 2:1,3", "by a b", "change b",
         "add c c", "times c 3")
ASKED = ("ask change a", "ask closed a", "pin change a")
LOW, OTHER = {(1,): (1, 0), (4,): (2, 0), (5,): (3, 1)}, {(2,): (2, 0), (5,): (1, 1)}
LOG = """shelf
edit put a 1 1:1,0 4:2,0 5:3,1
edit change a
pin change a
edit put b 1 1:1,0 4:2,0
pin change a
edit put c 1 2:1,3
pin change a
edit by a b
pin change a
edit change b
pin change a
edit add c c
pin change a
edit times c 3
pin change a
"""
FLOORS = (ZS, Z2, Z3, TWIST, MIXED, PLANE, SIGN, FOURS, Floor.still(V4, (0, 2)), Floor.still(S3, (6,)))


class LinesTest(unittest.TestCase):
    def test_answers_to_lines(self):
        shelf = Shelf(FOURS)
        shell = Shell(shelf)
        self.assertEqual(shell.say(EDITS[0]), "edition 2")
        for number, edit in enumerate(EDITS[1:], 1):
            paper = "{(1):(1 0) (4):(2 0) (5):(3 1)}" if number < 4 else "{(2):(2 0) (5):(1 1)}"
            self.assertEqual(shell.run((edit,) + ASKED), (f"edition {number + 2}", "yes " + paper, "yes ()", f"claim {number}"))
        self.assertEqual((shell.said, shelf.editions, len(shelf.claims), shelf.fallen), (29, 9, 7, ()))
        self.standings(shelf)
        self.assertEqual(log_text(shelf), LOG)
        read, many = read_log(FOURS, LOG)
        self.assertEqual((read, many), (shelf, len(LOG)))
        self.assertEqual(log_text(read), LOG)
        self.standings(read)

    def standings(self, shelf):
        """The standings of the seven claims at each edition."""
        for number in range(1, 8):
            for edition in range(number + 2, 10):
                word = "another" if number < 4 and edition == 6 else "stands"
                self.assertEqual(shelf.standing(number, edition), (word, True, LOW if edition < 6 else OTHER))

    def test_claims_that_fall(self):
        shelf = Shelf(FOURS)
        shell = Shell(shelf)
        for line, answer, words in (
                ("put a = 2 1,1:2,0", "edition 2", ""), ("put b = 1 1:1,1", "edition 3", ""),
                ("put n = 1 1:1,0", "edition 4", ""), ("change n", "edition 5", ""), ("ask closed a", "no (1 1 2)", ""),
                ("ask change a", "invalid", ""), ("pin closed a", "claim 1", "s"), ("pin change a", "invalid", "s"),
                ("pin change n", "claim 2", "ss"), ("pin alike a n", "invalid", "ss"), ("add n a", "edition 6", "sf"),
                ("put a = 1 1:1,2", "edition 7", "af"), ("change a", "edition 8", "ff"), ("times a 0", "edition 9", "ff"),
                ("times n 2", "edition 10", "fa"), ("drop b", "edition 11", "fs"), ("drop n", "edition 12", "ff"),
                ("put n = 2 1,1:2,0", "edition 13", "ff"), ("drop a", "edition 14", "ff"), ("put n = 2", "edition 15", "fa")):
            self.assertEqual(shell.say(line), answer)
            told = "".join(shelf.standing(number)[0][0] for number in range(1, len(shelf.claims) + 1))
            self.assertEqual(told, words)
            self.assertEqual(shelf.fallen, tuple(number for number, word in enumerate(words, 1) if word == "f"))
        self.assertEqual([shelf.standing(1, 13)[1:], shelf.standing(1)[1:], shelf.standing(2, 13)[1:], shelf.standing(2)[1:]],
                         [(True, ()), (None, None), (None, None), (True, {})])

    def test_edits_that_leave_rows(self):
        for floor in FLOORS:
            row = slow_change(floor, 0, some_row(floor, 0, 3, 4))
            shelf = Shelf(floor, {"a": (1, row), "b": (0, some_row(floor, 0, 3, 4)), "c": (1, some_row(floor, 1, 3, 5))})
            for question in (("change", "a"), ("closed", "a"), ("closed", "c"), ("alike", "a", "a")):
                shelf.pin(question)
            before = [shelf.standing(number) for number in range(1, 5)]
            self.assertEqual([word for word, _, _ in before], ["stands"] * 4)
            for edits in ((("drop", "b"),), (("times", "a", 1),), (("times", "a", -1), ("times", "a", -1)),
                          (("put", "d", 1, row), ("add", "a", "d"), ("put", "a", 1, row)), (("add", "d", "d"),)):
                shelf.edit(edits)
                self.assertEqual([shelf.standing(number) for number in range(1, 5)], before)
            # a claim that has fallen with its rows stays so behind edits of others
            shelf.edit((("drop", "a"),))
            shelf.edit((("times", "d", 2),))
            self.assertEqual([shelf.standing(number) for number in (1, 2, 4)], [("fallen", None, None)] * 3)
            self.assertEqual(shelf.standing(3), before[2])

    def test_unlike_papers_of_one_question(self):
        floor = Floor.still(V4, (2,))
        shelf = Shelf(floor, {"a": (1, {(3,): (1,)})})
        shelf.pin(("closed", "a"))
        shelf.edit((("put", "a", 1, {(0,): (1,), (3,): (1,)}),))
        shelf.pin(("closed", "a"))
        # the first claim keeps a paper that is no longer the first one
        self.assertEqual([shelf.standing(number) for number in (1, 2)],
                         [("stands", False, (1, 2)), ("stands", False, (1, 0))])
        shelf.edit((("put", "a", 1, {(3,): (1,)}),))
        shelf.pin(("closed", "a"))
        self.assertEqual([shelf.standing(number) for number in (1, 2, 3)],
                         [("stands", False, (1, 2)), ("another", False, (1, 2)), ("stands", False, (1, 2))])
        shelf.edit((("put", "a", 1, {(0,): (1,)}),))
        self.assertEqual([shelf.standing(number)[0] for number in (1, 2, 3)], ["another"] * 3)

    def test_nothing_is_found_twice(self):
        shelf = Shelf(FOURS, {"a": (2, slow_change(FOURS, 1, LOW)), "b": (1, OTHER)})
        for question in (("change", "a"), ("change", "a"), ("closed", "a"), ("closed", "b"), ("alike", "a", "a")):
            shelf.pin(question)
        with patch.object(Answers, "new_answer", side_effect=AssertionError):
            with patch.object(Answers, "answer_again", side_effect=AssertionError):
                for question in (("change", "a"), ("closed", "b"), ("alike", "a", "a")):
                    shelf.pin(question)
                    shelf.decided(question)
                # rows that are left are not asked again, in twins neither
                for one in (shelf, shelf.twin()):
                    one.edit((("put", "c", 1, LOW), ("times", "a", 1)))
                    one.pin(("closed", "b"))
                self.assertRaises(AssertionError, shelf.edit, (("times", "a", 2),))
        answers = Answers(FOURS)
        named = {"a": (2, slow_change(FOURS, 1, LOW)), "b": (2, {})}
        answers.answer(named, ("change", "a"))
        with patch("groupsover.house.answers.Changes", side_effect=AssertionError):
            answers.answer(named, ("change", "b"))
            answers.copied().answer(named, ("alike", "a", "b"))

    def test_claims_on_one_question_are_asked_once(self):
        shelf = Shelf(FOURS, {"a": (2, slow_change(FOURS, 1, LOW)), "b": (1, {(3,): (1, 1)})})
        for _ in range(5):
            shelf.pin(("change", "a"))
        with patch.object(Answers, "answer_again", autospec=True, side_effect=Answers.answer_again) as again:
            shelf.edit((("by", "a", "b"),))
        self.assertEqual(again.call_count, 1)
        self.assertEqual(len({shelf.standing(number)[0] for number in range(1, 6)}), 1)

    def test_papers_are_not_shared(self):
        shelf = Shelf(FOURS, {"a": (2, slow_change(FOURS, 1, LOW))})
        shelf.pin(("change", "a"))
        for _ in range(2):
            shelf.standing(1)[2].clear()
            shelf.decided(("change", "a"))[1].clear()
            self.assertEqual(shelf.standing(1), ("stands", True, LOW))
            self.assertEqual(shelf.decided(("change", "a")), (True, LOW))


class KeptTest(unittest.TestCase):
    def test_kept_answers_are_those_found_at_once(self):
        told = {"yes": 0, "no": 0, "invalid": 0}
        for at, floor in enumerate(FLOORS):
            for seed in range(3):
                source = random.Random(10 * at + seed)
                shelves = [Shelf(floor, some_named(floor, seed))]
                for turn in range(25):
                    shelf = source.choice(shelves)
                    named = shelf.named_at()
                    question = some_question(source, named)
                    try:
                        verdict, paper = decide(floor, named, question)
                        answer = ("yes " if verdict else "no ") + value_text(paper)
                        self.assertTrue(is_paper(floor, named, question, verdict, paper))
                        if source.random() < 0.5 and len(shelf.claims) < 20:
                            number = shelf.pin(question)
                            self.assertEqual(shelf.standing(number), ("stands", verdict, paper))
                    except InvalidOperation:
                        answer = "invalid"
                        self.assertRaises(InvalidOperation, shelf.decided, question)
                    told[answer.split()[0]] += 1
                    shell = Shell(shelf)
                    for _ in range(2):
                        self.assertEqual(shell.say(" ".join(("ask",) + question)), answer)
                    self.edited(source, floor, shelf)
                    if turn % 8 == 3:
                        # twins keep what was found, and go on by themselves
                        shelves.append(shelf.twin())
                for shelf in shelves:
                    self.logged(shelf)
        self.assertGreater(min(told.values()), 40)

    def edited(self, source, floor, shelf):
        """Edit a shelf, if it can be done; its standings follow from those ahead by what is a paper."""
        ahead = [shelf.standing(number) for number in range(1, len(shelf.claims) + 1)]
        try:
            shelf.edit((some_edit(floor, source, shelf.named_at()),))
        except (ArithmeticError, OverflowError):
            return
        named = shelf.named_at()
        for number, (_, known, kept) in enumerate(ahead, 1):
            question, pinned, _ = shelf.claims[number - 1]
            try:
                verdict, paper = decide(floor, named, question)
            except InvalidOperation:
                self.assertEqual(shelf.standing(number), ("fallen", None, None))
                continue
            word = "another"
            if known is not None and is_paper(floor, named, question, known, kept):
                self.assertIs(verdict, known)
                word, paper = "stands", kept
            self.assertEqual(shelf.standing(number), (word if verdict == pinned else "fallen", verdict, paper))

    def logged(self, shelf):
        """What the log of a shelf tells has the same standings at each edition."""
        read, _ = read_log(shelf.floor, log_text(shelf))
        self.assertEqual(read, shelf)
        for number, (_, _, first) in enumerate(shelf.claims, 1):
            for edition in range(first, shelf.editions + 1):
                self.assertEqual(read.standing(number, edition), shelf.standing(number, edition))

    def test_what_is_forgotten(self):
        answers, one, other = Answers(ZS), {"a": (1, {(1,): (4,)}), "b": (1, {(1,): (3,)})}, {"a": (1, {(1,): (4,)})}
        for question in (("change", "a"), ("change", "b"), ("alike", "a", "b")):
            self.assertTrue(answers.is_about(one, question))
            answers.answer(one, question)
        copied = answers.copied()
        self.assertEqual(len(answers.told), 5)
        answers.forget(one, other)
        self.assertEqual(sorted(answers.told), [("change", "a"), ("closed", "a")])
        self.assertEqual(len(copied.told), 5)
        copied.forget(one, {**one, "c": (0, {})})
        self.assertEqual(len(copied.told), 5)


if __name__ == "__main__":
    unittest.main()
