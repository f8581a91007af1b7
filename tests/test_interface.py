"""The interface: names, arguments, and where each one is defined."""

import importlib
import inspect
import unittest

FUNCTIONS = {
    "groupsover.base.groups": """Group(moves)
        is_group_part(group, value) made_part(group, members) group_parts(group) coset_leaders(group, part)
        part_group(group, part) moved_part(group, part, member) prime_part(group, prime) is_commuting(group, part)
        normalizer_of(group, part) centralizer_of(group, part) generated_rounds(group)""",
    "groupsover.base.floors": """Floor(group, rests, tables)
        is_floor_value(floor, value) fixed_list(floor) floor_sum(floor, further) seen_floor(floor, part)
        is_floor_map(floor, further, value) mapped(floor, further, table, value) same_floor_maps(floor)""",
    "groupsover.base.tables": """is_table(value) table_product(one, other) unit_table(size) steps_of(table)
        rank_of(table) determinant(table) solution(table, values, modulus) is_solution(table, values, modulus, value)
        bar(table, values, modulus) is_bar(table, values, modulus, value) list_of(sizes) zero_list(table, modulus)
        made_list(table, modulus) quotient_list(rows) order_in(rows, x) lattice_test(rows, x)
        is_lattice_test(rows, x, value)""",
    "groupsover.rows.rows": """is_row(floor, step, value) row_at(floor, step, row, members) change(floor, step, row)
        row_sum(floor, step, row, further) row_difference(floor, step, row, further)
        row_times(floor, step, number, row) clean_row(floor, step, row) is_clean(floor, step, value)
        summed_row(floor, step, row) mapped_row(floor, further_floor, table, step, row)""",
    "groupsover.rows.closed": """is_closed(floor, step, value) source_of(floor, step, row)
        is_source(floor, step, row, value) test_for(floor, step, row) is_test(floor, step, value)
        test_value(floor, step, test, row) are_one_class(floor, step, row, further) class_list(floor, step)
        class_makers(floor, step) class_place(floor, step, row) are_class_makers(floor, step, value)
        class_order(floor, step, row)""",
    "groupsover.laid.complements": """is_pair(floor, value) pair_product(floor, one, other)
        pair_inverse(floor, one) pair_power(floor, one, number) pair_order(floor, one) is_complement(floor, value)
        complement_row(floor, one) row_complement(floor, row) complements_number(floor) complements(floor)
        moved_complement(floor, one, value) mover(floor, one, other) is_mover(floor, one, other, value)
        complement_lots(floor)""",
    "groupsover.laid.layings": """Layering(floor, row)
        is_choice(layering, value) row_from(layering, choice) split(layering) is_split(layering, value)
        finite_pair(layering) is_finite_pair(layering, value)""",
    "groupsover.laid.alike": """alike_map(floor, row, further) is_alike_map(floor, row, further, value)
        unlike_test(floor, row, further) is_unlike_test(floor, row, further, value) self_maps(group)
        is_leader(floor, value) leaders(floor) led_row(floor, leader, step, row) led_paper(floor, row, further)
        is_led_paper(floor, row, further, value) led_sizes(floor)""",
    "groupsover.seen.parts": """seen_row(floor, part, step, row) carried_back(floor, part, step, row)
        moved_row(floor, part, member, step, row) is_agreeing(floor, part, step, row)
        spread_row(floor, part, step, row) prime_share(floor, prime, step, row) class_primes(floor, step, row)""",
    "groupsover.ladders.ladders": """Ladder(group, tables)
        bar_ladder(group, height) round_ladder(group, member, height) product_ladder(ladder, further)
        is_exact_to(ladder, number) ladder_change(ladder, floor, step, row) ladder_source(ladder, floor, step, row)
        ladder_list(ladder, floor, step) joined_map(ladder, further) is_joined_map(ladder, further, value)
        led_over(ladder, further, table, floor, step, row)""",
    "groupsover.ladders.rounds": """maker_of(group) round_list(floor, step) round_row(floor, step, value)
        round_source(floor, step, value) round_value(floor, step, row) size_quotient(floor) turned_list(floor, step)""",
    "groupsover.carried.carried": """carried_floor(group, part, floor) seen_at_one(group, part, floor, step, row)
        carried_row(group, part, floor, step, row) spread_table(floor, part) folded_table(floor, part)
        joined_list(one, other) joined_row(floor, further, step, one, other) parted_row(floor, further, step, row)""",
    "groupsover.triples.three": """Triple(floors, tables)
        next_row(triple, step, row) is_next_row(triple, step, row, value) back_to_middle(triple, step, row)
        back_to_outer(triple, step, row) back_to_inner(triple, step, row) is_back_to_middle(triple, step, row, value)
        is_back_to_outer(triple, step, row, value) is_back_to_inner(triple, step, row, value)
        endless_lists(triple, number)""",
    "groupsover.products.products": """is_pairing(one, other, third, value)
        pairing_value(one, other, third, pairing, x, y) turned(one, other, third, pairing)
        product_row(one, other, third, pairing, p, f, q, h) turned_source(one, other, third, pairing, p, f, q, h)
        is_turned_source(one, other, third, pairing, p, f, q, h, value)""",
    "groupsover.products.again": """bar_members(group) is_bar(group, value) again_paper(group)
        is_again_paper(group, value) prime_turns(group, prime) again_step(group) list_again(group, number)
        made_commuting(group)""",
    "groupsover.rules.rules": """Rules(group, letters, words)
        crossed_row(floor, rules, places) word_values(floor, rules, row) row_of_values(floor, rules, places)
        is_identity(rules, value) rules_list(floor, rules, step)""",
    "groupsover.kernels.kernels": """turns_of(kernel) inner_turn(kernel, member) is_way(kernel, group, value)
        factors_of(kernel, group, way) are_factors(kernel, group, way, value) middle_base(kernel)
        is_middle_base(kernel, value) middle_floor(kernel, group, way, base)
        bar_row(kernel, group, way, factors, base) laid_factors(kernel, group, way) way_test(kernel, group, way)
        is_way_test(kernel, group, way, value) Laid(kernel, group, way, factors) layings_number(kernel, group, way)""",
    "groupsover.ratios.ratios": """is_ratio_row(group, step, value) ratio_change(group, step, row)
        ratio_source(group, row) is_ratio_source(group, row, value) ratio_list(group) turned_ratios(group, row)
        is_turning(group, value) turning_row(group, turning) member_classes(group) passing_classes(group, row)
        laid_number(group, row, number)""",
    "groupsover.house.shelf": """Shelf(floor, named=None)
        is_question(value) decide(floor, named, question) is_paper(floor, named, question, verdict, value)
        is_edit(floor, value) edited(floor, named, edits)""",
    "groupsover.house.log": "log_text(shelf) read_log(floor, text)",
    "groupsover.text.texts": """write_table(table) write_row(floor, step, row) read_table(text) read_row(floor, text)
        write_value(value) read_value(text)""",
    "groupsover.text.shell": "Shell(shelf)",
}
METHODS = {
    ("groupsover.base.groups", "Group"): """product(self, one, other) inverse(self, member)
        power(self, member, number) order(self, member) round(size) both(one, other)""",
    ("groupsover.base.floors", "Floor"): """moved(self, member, value) added(self, value, further)
        subtracted(self, value, further) repeated(self, number, value) still(group, rests)
        made(group, rests, makers)""",
    ("groupsover.laid.layings", "Layering"): """joined(self, left, right) undone(self, pair)
        joined_often(self, pair, times) turns(self, pair) inside(self, value) all_pairs(self) pairs_table(self)""",
    ("groupsover.ladders.ladders", "Ladder"): "",
    ("groupsover.triples.three", "Triple"): """led_in(self, step, row) led_out(self, step, row)
        lifted(self, step, row) pulled(self, step, row)""",
    ("groupsover.rules.rules", "Rules"): "member_of(self, word) slope(self, word, index)",
    ("groupsover.kernels.kernels", "Laid"): """multiplied(self, one, other) reversed_pair(self, one)
        repeats(self, one)""",
    ("groupsover.house.shelf", "Shelf"): """edit(self, edits) pin(self, question) named_at(self, edition=None)
        standing(self, number, edition=None) twin(self)""",
    ("groupsover.text.shell", "Shell"): "say(self, line) run(self, lines)",
}
# the classes whose objects are compared, and those that have a text of their own
COMPARED = ("Group", "Floor", "Layering", "Ladder", "Triple", "Rules", "Shelf")
WITH_TEXTS = ("Group", "Floor", "Layering", "Ladder", "Triple", "Shelf", "Shell")
LENGTHS = (("groupsover.base.groups", "Group"), ("groupsover.ladders.ladders", "Ladder"),
           ("groupsover.house.shelf", "Shelf"))
MEMBERS = (("groupsover.laid.layings", "Layering"), ("groupsover.house.shelf", "Shelf"))
PROPERTIES = {
    ("groupsover.base.groups", "Group"): "size moves",
    ("groupsover.base.floors", "Floor"): "group rests tables places is_whole is_finite floor_size",
    ("groupsover.laid.layings", "Layering"): "base_floor told_row many_pairs neutral",
    ("groupsover.ladders.ladders", "Ladder"): "laddered widths told_tables",
    ("groupsover.triples.three", "Triple"): "three_floors two_maps",
    ("groupsover.rules.rules", "Rules"): "ruled_group letters words",
    ("groupsover.kernels.kernels", "Laid"): "kernel_below group_above told_way laid_size",
    ("groupsover.house.shelf", "Shelf"): "floor editions claims fallen history",
    ("groupsover.text.shell", "Shell"): "said",
}


def told(text):
    """Names and their arguments."""
    for piece in text.replace("\n", " ").split(")"):
        if piece.strip():
            name, arguments = piece.strip().split("(")
            yield name, [argument.strip() for argument in arguments.split(",")]


def told_parameters(found):
    """The parameters of a function, those with a default value with it."""
    parameters = inspect.signature(found).parameters.values()
    return [one.name if one.default is inspect.Parameter.empty else f"{one.name}={one.default}" for one in parameters]


class InterfaceTest(unittest.TestCase):
    def test_functions(self):
        for place, text in FUNCTIONS.items():
            module = importlib.import_module(place)
            for name, arguments in told(text):
                found = getattr(module, name)
                self.assertEqual(found.__module__, place)
                self.assertEqual(told_parameters(found), arguments, name)

    def test_methods(self):
        for (place, owner), text in METHODS.items():
            kept = getattr(importlib.import_module(place), owner)
            for name, arguments in told(text):
                self.assertIn(name, vars(kept))
                self.assertEqual(told_parameters(getattr(kept, name)), arguments, name)
            self.assertEqual("__eq__" in vars(kept), owner in COMPARED)
            self.assertEqual("__str__" in vars(kept), owner in WITH_TEXTS)

    def test_lengths_and_members(self):
        for place, owner in LENGTHS:
            self.assertIn("__len__", vars(getattr(importlib.import_module(place), owner)))
        for place, owner in MEMBERS:
            self.assertIn("__contains__", vars(getattr(importlib.import_module(place), owner)))

    def test_properties(self):
        for (place, owner), text in PROPERTIES.items():
            kept = getattr(importlib.import_module(place), owner)
            for name in text.split():
                self.assertIn(name, vars(kept))


if __name__ == "__main__":
    unittest.main()
