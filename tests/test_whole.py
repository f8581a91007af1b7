"""The whole program: what points 0.1 to 0.19 promise of all functions and classes together."""

import importlib
import random
import unittest
from itertools import product

import test_interface
from examples import (C1, C2, C3, C4, C6, D4, LONGEST, MIXED, PLANE, Refusals, S3, SIGN, SWAP, TWIST, V4, WALL, Z2, Z3, ZS,
                      slow_change, some_row)
from groupsover import errors
from groupsover.base.floors import Floor, seen_floor
from groupsover.base.groups import Group, group_parts, part_group, prime_part
from groupsover.carried.carried import carried_floor
from groupsover.kernels.kernels import Laid, laid_factors, way_test
from groupsover.ladders.ladders import bar_ladder, ladder_list, round_ladder
from groupsover.ladders.rounds import maker_of, round_list
from groupsover.laid.alike import alike_map, led_paper
from groupsover.laid.complements import complement_row, complements
from groupsover.laid.layings import Layering, finite_pair, split
from groupsover.products.again import again_paper, list_again
from groupsover.ratios.ratios import ratio_list
from groupsover.rows.closed import (class_list, class_makers, class_order, is_closed, is_source, is_test, source_of,
                                    test_for as bar_for, test_value as value_of_test)
from groupsover.rows.rows import row_sum, row_times
from groupsover.rules.rules import Rules, rules_list
from groupsover.seen.parts import class_primes, seen_row
from groupsover.house.shelf import Shelf
from groupsover.text.shell import Shell
from groupsover.triples.three import Triple

OWN = tuple(error for error in vars(errors).values() if isinstance(error, type) and issubclass(error, Exception))
STILL_WAY = ((0, 1), (0, 1))
NO_FACTORS = {pair: 0 for pair in product(range(2), repeat=2)}
LADDER, R2 = round_ladder(C2, 1, 3), Rules(C2, (1,), ((1, 1),))
R6 = Rules(S3, (3, 2), ((1, 1, 1), (2, 2), (1, 2, 1, 2)))
LAYING, TRIPLE = Layering(Z2, {(1, 1): (1,)}), Triple((ZS, ZS, Z2), (((2,),), ((1,),)))
WHOLE_LAYING = Layering(Floor.still(C2, (0,)), {(1, 1): (1,)})
LAID = Laid(C2, C2, STILL_WAY, NO_FACTORS)
NAMED = {"a": (1, {(1,): (4,)}), "b": (0, {(): (2,)})}


def some_objects():
    shelf = Shelf(ZS, NAMED)
    return [C2, S3, Z2, ZS, LADDER, R2, LAYING, TRIPLE, LAID, shelf, Shell(shelf)]


PLAIN = (None, True, False, 0, 1, 2, -1, 3, LONGEST, 10 ** 60, -10 ** 219, "", "a", "closed", "a b\tc\n", (), (0,), (1,), (0, 0), (1, 1),
         ((1,),), ((0, 1), (1, 0)), (0, 1), (True,), ("a",), (None,), (1, 2), ((1, 2), (0, 3)))
# right values for the parameters, by their names
RIGHT = {
    "group": (C2, S3, V4, C1), "kernel": (C2, C4, S3), "floor": (ZS, Z2, Floor.still(C2, (0,)), SIGN), "prime": (2, 3),
    "further": (ZS, Z2, {}, {(1,): (1,)}, (1,), LADDER), "further_floor": (ZS, Z2), "one": (ZS, Z2, C2, ((1,), 1), (2, 4), ((0,), (1,))),
    "other": (ZS, Z2, C2, ((1,), 1), (2,), ((0,), (1,))), "third": (ZS, Z2), "part": ((0,), (0, 1)), "member": (0, 1),
    "members": ((), (1,), (0, 1)), "step": (0, 1, 2, 3, 4), "row": ({}, {(1,): (4,)}, {(1, 1): (1,)}, {(): (2,)}, {(1,): (1, 2)}),
    "value": ((1,), {}, (), ((1,),)), "number": (1, 2, 3), "table": (((1,),), ((1, 2), (3, 4))), "values": ((1,), (1, 2)),
    "modulus": (4, 6), "rows": (((1, 2), (3, 4)),), "x": ((1, 2), (1,)), "y": ((1,),), "sizes": ((2, 3),), "size": (2,),
    "moves": (((1, 0),),), "rests": ((2,), (0,)), "tables": ((((1,),), ((1,),)), (((2,),), ((1,),)), ((({0: -1, 1: 1},),),)),
    "makers": ({1: ((1,),)},), "test": ({}, {(1,): ((1, 2),)}), "layering": (LAYING, WHOLE_LAYING), "height": (1, 2),
    "choice": ((((0,), 0), ((0,), 1)),), "leader": (((0, 1), ((1,),)),), "ladder": (LADDER,), "p": (0, 1), "q": (0, 1),
    "f": ({}, {(1,): (1,)}), "h": ({}, {(1,): (1,)}), "pairing": ((((1,),),),), "triple": (TRIPLE,), "letters": ((1,),),
    "words": (((1, 1),),), "rules": (R2,), "places": (((1,),), ((0,),)), "way": (STILL_WAY, ((0, 1, 2, 3), (0, 3, 2, 1))),
    "factors": (NO_FACTORS,), "base": ((1,), ()), "turning": ({},), "named": ({}, NAMED), "question": (("closed", "a"), ("change", "a")),
    "verdict": (True, False), "edits": ((("drop", "a"),),), "shelf": (Shelf(ZS, NAMED),), "floors": ((ZS, ZS, Z2),),
    "text": ("shelf\n", "1 1:4", "1,2", "()"), "word": ((1, 1), (-1,)), "index": (0,), "left": (((1,), 1),), "right": (((1,), 1),),
    "pair": (((1,), 1), ((0,), 0)), "times": (1, -3), "edition": (None, 1), "line": ("names", "ask closed a"),
    "lines": (("names", "show a"),)}
CHANGING = ("Shelf", "Shell")


def some_junk(source, deep, objects):
    """Any value of the kinds that calls have to refuse."""
    kind = source.random()
    if deep == 0 or kind < 0.35:
        return source.choice(PLAIN)
    if kind < 0.45:
        return source.choice(objects)
    many = source.choice((0, 1, 1, 2, 2, 3))
    if kind < 0.8:
        return (tuple if kind < 0.72 else list)(some_junk(source, deep - 1, objects) for _ in range(many))
    found = {}
    for _ in range(many):
        key = tuple(source.choice((0, 1, 1, 2, True, -1, None, "a", 10 ** 60)) for _ in range(source.choice((0, 1, 1, 2, 2, 3))))
        found[source.choice((key, key, source.choice(PLAIN)))] = some_junk(source, deep - 1, objects)
    return found


def has_ascending_keys(value):
    """Whether all dicts in a value have ascending keys."""
    if isinstance(value, dict):
        return list(value) == sorted(value) and all(has_ascending_keys(inner) for inner in value.values())
    return not isinstance(value, (tuple, list)) or all(has_ascending_keys(inner) for inner in value)


def told_calls():
    """All functions and methods of the interface, with the names of their parameters."""
    found = []
    for place, text in test_interface.FUNCTIONS.items():
        module = importlib.import_module(place)
        for name, arguments in test_interface.told(text):
            found.append((name, getattr(module, name), [argument.split("=")[0] for argument in arguments if argument]))
    owners = {owner.__class__.__name__: owner for owner in some_objects()}
    for (_, owner), text in test_interface.METHODS.items():
        for name, arguments in test_interface.told(text):
            behind = [argument.split("=")[0] for argument in arguments if argument and argument != "self"]
            found.append((f"{owner}.{name}", getattr(owners[owner], name), behind))
    return found


class WholeTest(Refusals, unittest.TestCase):
    def test_any_values(self):
        source, objects, done = random.Random(1), some_objects(), {}
        for name, call, arguments in told_calls():
            for _ in range(120):
                chosen = [source.choice(RIGHT[argument]) for argument in arguments]
                for at in range(len(chosen)):
                    if source.random() < 0.6 / len(chosen):
                        chosen[at] = some_junk(source, 4, objects)
                before = repr(chosen)
                found = self.outcome(name, call, chosen)
                if name.split(".")[0] not in CHANGING and name not in CHANGING and name != "complements":
                    self.assertEqual(before, repr(chosen))
                    # equal calls have equal results
                    self.assertEqual(repr(self.outcome(name, call, chosen)).split(" at 0x")[0], repr(found).split(" at 0x")[0])
                if found[0] == "done":
                    done[name] = True
                    self.assertTrue(has_ascending_keys(found[1]), name)
                    if name.split("_")[0] in ("is", "are"):
                        self.assertIn(found[1], (True, False))
                        self.assertIs(found[1].__class__, bool)
        self.assertGreater(len(done), 170)

    def outcome(self, name, call, chosen):
        """What a call returns, or its error and what this keeps."""
        try:
            found = call(*chosen)
            return "done", list(found) if name == "complements" else found
        except OWN as error:
            self.assertIn(error.__class__, OWN)
            self.assertIsNot(error.__class__, errors.OverError)
            return error.__class__.__name__, sorted(vars(error).items())

    def test_judged_values_raise_nothing(self):
        source, objects = random.Random(2), some_objects()
        judges = [(name, call, arguments) for name, call, arguments in told_calls()
                  if name.split("_")[0] in ("is", "are") and arguments[-1] == "value"]
        self.assertGreater(len(judges), 35)
        right = {"is_finite_pair": (WHOLE_LAYING,), "is_joined_map": (LADDER, LADDER), "is_exact_to": (LADDER, 2),
                 "is_back_to_middle": (TRIPLE, 0, {}), "is_back_to_outer": (TRIPLE, 1, {}), "is_back_to_inner": (TRIPLE, 0, {}),
                 "is_next_row": (TRIPLE, 0, {}), "is_pairing": (ZS, ZS, Floor.still(C2, (0,))), "is_turned_source": (
                     ZS, ZS, Floor.still(C2, (0,)), (((1,),),), 1, {}, 1, {}), "is_turning": (V4,), "is_way_test": (C2, C2, STILL_WAY),
                 "is_ratio_row": (C2, 1), "is_ratio_source": (C2, {}), "are_factors": (C2, C2, STILL_WAY), "is_way": (C2, C2),
                 "is_solution": (((1, 2),), (3,), 4), "is_bar": (((2,),), (1,), 4), "is_lattice_test": (((2, 0),), (1, 0)),
                 "is_paper": (ZS, NAMED, ("change", "a"), True), "is_identity": (R2,), "is_split": (LAYING,),
                 "is_choice": (LAYING,), "is_mover": (Z2, ((0,), (0,)), ((0,), (0,))), "is_led_paper": (Z2, {}, {}),
                 "is_alike_map": (ZS, {}, {}), "is_unlike_test": (ZS, {}, {}), "is_source": (ZS, 1, {}), "is_table": (),
                 "is_floor_map": (ZS, Z2)}
        for name, call, arguments in judges:
            for _ in range(60):
                ahead = right.get(name)
                if ahead is None or len(ahead) != len(arguments) - 1:
                    ahead = [{"group": C2, "kernel": C2, "floor": ZS, "step": 1}.get(argument) for argument in arguments[:-1]]
                value = some_junk(source, 5, objects)
                self.assertIn(call(*ahead, value).__class__, (bool,), (name, value))

    def test_compared_and_iterated(self):
        objects = some_objects()
        for one in objects:
            for other in objects + list(PLAIN) + [[], {}, [1], {1: 2}]:
                self.assertIs(one == other, not one != other)
                self.assertIs((one == other).__class__, bool)
                if one is not other:
                    self.assertEqual(one == other, False)
            self.assertTrue(one == one)
            if isinstance(one, Group):
                self.assertEqual(list(one), list(range(one.size)))
            else:
                with self.assertRaises(TypeError):
                    iter(one)
            if isinstance(one, (Layering, Shelf)):
                for value in list(PLAIN) + [[], {}, [[]], {1: []}] + objects:
                    self.assertIn(value in one, (True, False))

    def test_what_is_returned_is_not_shared(self):
        for name, call, chosen in (("makers", class_makers, (Floor.still(C2, (0,)), 2)), ("ladders", lambda: LADDER.told_tables[0][0][0], ()),
                                   ("rows", lambda: LAYING.told_row, ()), ("slopes", R6.slope, ((1, 2), 0)),
                                   ("factors", laid_factors, (C2, C2, STILL_WAY)), ("sources", source_of, (ZS, 1, {(1,): (4,)}))):
            first = call(*chosen)
            before = repr(first)
            told = first[0] if isinstance(first, tuple) else first
            told[(7, 7)] = (9,)
            self.assertEqual(repr(call(*chosen)), before, name)

    def test_errors_have_no_effect(self):
        shelf = Shelf(ZS, NAMED)
        shelf.pin(("change", "a"))
        shell = Shell(shelf)
        source, objects = random.Random(3), some_objects()
        before = (shelf.twin(), shelf.history, shell.said)
        for call, many in ((shelf.edit, 1), (shelf.pin, 1), (shelf.named_at, 1), (shelf.standing, 2), (shell.say, 1), (shell.run, 1)):
            for _ in range(200):
                given = [some_junk(source, 4, objects) for _ in range(many)]
                if call in (shell.say, shell.run) and (isinstance(given[0], str) or given[0] == () or given[0] == ("a",)):
                    continue
                try:
                    call(*given)
                except OWN:
                    pass
        self.assertTrue((shelf, shelf.history, shell.said) == before)


class RoadsTest(unittest.TestCase):
    def test_all_roads_agree(self):
        rules = {2: R2, 3: Rules(C3, (1,), ((1,) * 3,)), 4: Rules(C4, (1,), ((1,) * 4,)), 6: R6}
        floors = (ZS, Z2, SWAP, MIXED, TWIST, PLANE, Z3, SIGN, WALL, Floor.still(C2, (0,)), Floor.still(C3, (0, 3)), Floor.still(C4, (0,)),
                  Floor.still(C4, (2, 8)), Floor.still(S3, (0,)), Floor.still(S3, (6,)))
        for floor in floors:
            group = floor.group
            ladder = bar_ladder(group, 3 if group.size < 5 else 2)
            some = rules[group.size]
            for step in (1, 2):
                found = rules_list(floor, some, step)
                if (group.size - 1) ** (step + 1) * floor.places <= 300:
                    self.assertEqual(class_list(floor, step), found)
                if step < len(ladder):
                    self.assertEqual(ladder_list(ladder, floor, step), found)
                if maker_of(group) is not None:
                    self.assertEqual(round_list(floor, step), found)
                    self.assertEqual(ladder_list(round_ladder(group, maker_of(group), 4), floor, step), found)
                if floor == Floor.still(group, (0,)) and again_paper(group) is not None:
                    self.assertEqual(list_again(group, step), found)
                # carried up to a greater group
                if group.size == 2 and floor.places * 2 <= 12 and (3 ** (step + 1)) * floor.places * 2 <= 300:
                    carried = carried_floor(C4, (0, 2), seen_like(C4, (0, 2), floor))
                    self.assertEqual(class_list(carried, step), found)
            if floor == Floor.still(group, (0,)) and group.size < 5:
                self.assertEqual(class_list(floor, 3), ratio_list(group))

    def test_sources_and_tests(self):
        for floor in (ZS, Z2, SWAP, MIXED, TWIST, PLANE, Z3, SIGN, Floor.still(V4, (0, 2)), Floor.still(C6, (0,)), Floor.still(D4, (2,))):
            group = floor.group
            for step in (1, 2):
                for row in some_closed_rows(floor, step):
                    source, test = source_of(floor, step, row), bar_for(floor, step, row)
                    self.assertNotEqual(source is None, test is None)
                    if source is not None:
                        self.assertTrue(is_source(floor, step, row, source))
                    else:
                        self.assertTrue(is_test(floor, step, test))
                        self.assertNotEqual(value_of_test(floor, step, test, row), (0, 1))
                    # seen from prime parts
                    seen = []
                    for prime in (2, 3):
                        part = prime_part(group, prime)
                        seen.append(source_of(seen_floor(floor, part), step, seen_row(floor, part, step, row)) is not None)
                    self.assertEqual(source is not None, all(seen))
                    self.assertEqual(class_primes(floor, step, row) == (), source is not None)
                    self.assertEqual(group.size % class_order(floor, step, row), 0)

    def test_groups_of_pairs(self):
        for floor in (ZS, Z2, TWIST, SWAP, Z3, Floor.still(V4, (2,)), Floor.still(V4, (0,)), SIGN):
            for row in some_closed_rows(floor, 2):
                laying = Layering(floor, row)
                self.assertEqual(split(laying) is None, source_of(floor, 2, row) is None)
                self.assertEqual(alike_map(floor, row, {}) is None, source_of(floor, 2, row) is None)
                if floor.is_whole:
                    primes = [part for part in group_parts(floor.group) if len(part) in (2, 3)]
                    changes = [source_of(seen_floor(floor, part), 2, seen_row(floor, part, 2, row)) is not None for part in primes]
                    self.assertEqual(finite_pair(laying) is not None, any(changes))
        for floor in (Z2, TWIST, Z3):
            rows = [complement_row(floor, one) for one in complements(floor)]
            self.assertTrue(all(is_closed(floor, 1, row) for row in rows))

    def test_kernels_and_rows(self):
        # a kernel under a group, laid or with a test, never both
        for way in product(((0, 1, 2, 3), (0, 3, 2, 1)), repeat=2):
            way = ((0, 1, 2, 3),) + way[:1]
            self.assertNotEqual(laid_factors(C4, C2, way) is None, way_test(C4, C2, way) is None)

    def test_none_of_these_is_true(self):
        # each closed row is a change
        self.assertIsNone(source_of(ZS, 1, {(1,): (1,)}))
        # groups that are alike are alike over both sides
        nine = {(1, 2): (1,), (2, 1): (1,), (2, 2): (1,)}
        more = row_times(Z3, 2, 2, nine)
        self.assertIsNone(alike_map(Z3, nine, more))
        self.assertIsNotNone(led_paper(Z3, nine, more))
        # a class that is 0 seen from all parts with one generating member is 0
        still = Floor.still(V4, (0,))
        unseen = []
        for row in class_makers(still, 3):
            parts = [part for part in group_parts(V4) if len(part) == 2]
            if all(source_of(seen_floor(still, part), 3, seen_row(still, part, 3, row)) is not None for part in parts):
                unseen.append(row)
        self.assertTrue(unseen and all(source_of(still, 3, row) is None for row in unseen))
        # without values that all members leave nothing is left
        self.assertEqual((class_list(PLANE, 0), class_list(PLANE, 1)), ((), (3,)))
        self.assertEqual((class_list(ZS, 0), class_list(ZS, 1)), ((), (2,)))


def seen_like(group, part, floor):
    """A floor over the group of a part that is one over another group of as many members."""
    return Floor(part_group(group, part), floor.rests, floor.tables)


def some_closed_rows(floor, step):
    """Closed rows: changes, makers, and sums of both."""
    found = [{}, slow_change(floor, step - 1, some_row(floor, step - 1, 5, step))]
    if (floor.group.size - 1) ** (step + 1) * floor.places <= 300:
        for maker in class_makers(floor, step):
            found += [maker, row_sum(floor, step, maker, found[1])]
    return found


if __name__ == "__main__":
    unittest.main()
