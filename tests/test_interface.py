"""[23]: the names of functions and arguments, and the file in which each is defined."""

import importlib
import inspect
import unittest

FUNCTIONS = {
    "signs": {
        "pieces": "text", "text_of": "pieces", "number_of": "piece", "piece_of": "number",
    },
    "skins": {
        "is_skin": "thing", "is_crossing": "skin thing", "edges": "skin", "edge_of": "skin crossing",
        "contrary": "skin crossing", "joined": "skin edge", "edges_at": "skin field", "neighbours": "skin field",
        "edges_joining": "skin field other", "renamed": "skin order turns", "edge_names": "skin order turns",
    },
    "corners": {
        "corners": "skin", "corner_of": "skin field side", "corners_at": "skin field", "ends_of": "skin edge",
        "corner_sizes": "skin", "edges_round": "skin corner", "sizes": "skin", "x_of": "skin", "handles": "skin",
    },
    "trees": {
        "is_lot": "skin thing", "tree_order": "skin", "come_by": "skin", "way_to": "skin field", "field_tree": "skin",
        "corner_tree": "skin", "corner_way": "skin corner other", "joins_fields": "skin lot",
        "joins_corners": "skin lot", "loose": "skin", "handle_rings": "skin", "loops": "skin",
    },
    "rings": {
        "is_ring": "skin thing", "is_simple": "skin ring", "fields_of": "skin ring", "ring_round": "skin corner",
        "ring_back": "skin ring", "ring_from": "skin ring", "lot_of_ring": "skin ring", "class_of_lot": "skin lot",
        "class_of_ring": "skin ring", "put_together": "skin one other", "is_class": "skin thing", "classes": "skin",
        "ring_of_class": "skin one", "is_ring_of": "skin one thing", "corners_within": "skin lot",
    },
    "arrows": {
        "is_arrows": "skin thing", "against": "skin arrows ring", "against_at": "skin arrows",
        "bad_corners": "skin arrows", "are_good": "skin arrows", "turned_lot": "skin arrows lot",
        "mended": "skin arrows", "good_arrows": "skin", "many_good": "skin", "good_at": "skin number",
        "number_of_good": "skin arrows", "odd_reason": "skin",
    },
    "kinds": {
        "kind_of": "skin arrows", "turned_at": "skin arrows fields", "fields_between": "skin arrows other",
        "are_akin": "skin arrows other", "unlike_ring": "skin arrows other", "all_turned": "skin arrows",
        "arrows_of": "skin kind", "many_kinds": "skin", "all_kinds": "skin",
    },
    "meetings": {
        "left_ring": "skin number", "meeting_table": "skin", "form": "skin", "meetings": "skin one other",
        "rings_meet": "skin ring second", "class_that_meets": "skin one", "met_evenly": "skin one",
        "table_times": "table far_table", "table_back": "table",
    },
    "sticks": {
        "left_sides": "skin ring", "sticking_out": "skin ring pairing", "sticks": "skin ring pairing",
        "q_of_ring": "skin arrows pairing ring", "simple_rings": "skin",
    },
    "marks": {
        "q_of_class": "skin arrows pairing one", "q_row": "skin arrows pairing", "mark": "skin arrows pairing",
        "mark_by_pairs": "skin arrows pairing", "paired_classes": "skin", "is_paired_classes": "skin thing",
        "class_moved": "skin kind other", "mark_moved": "skin arrows pairing other", "marks": "skin pairing",
        "marks_one": "skin",
    },
    "pairings": {
        "is_pairing": "skin thing", "all_pairings": "skin", "some_pairing": "skin", "odd_parts": "skin fields",
        "lack": "skin", "is_lack": "skin thing", "parted": "skin pairing other",
        "class_between": "skin pairing other", "moved_along": "skin pairing ring",
    },
    "tables": {
        "worth_of": "skin worths pairing", "sign_of": "skin arrows pairing", "signed_table": "skin arrows worths",
        "is_signed_table": "thing", "paired_sum": "table", "struck": "table fields", "turned_table": "table fields",
        "row_added": "table field other number", "sum_by_pairs": "table field",
    },
    "turns": {
        "is_even_lot": "skin thing", "crossed": "skin lot", "step_rows": "skin", "are_step_rows": "skin thing",
        "steps": "skin", "lot_of": "skin kind", "is_lot_of": "skin kind thing", "fewest_turned": "skin arrows kind",
        "kind_led": "skin arrows kind", "is_kind_led": "skin arrows kind thing",
    },
    "counts": {
        "how_many": "skin", "sum_of": "skin worths", "part_of": "skin worths arrows pairing",
        "parts": "skin worths pairing", "sum_without": "skin worths lot", "sum_with": "skin worths edge",
        "ways_of": "skin lot",
    },
    "shares": {
        "shares": "skin worths pairing", "is_shares": "skin worths pairing thing",
        "share_of": "skin worths pairing one", "shares_with": "skin worths pairing edge", "edge_shares": "skin worths",
        "met_classes": "skin pairing",
    },
    "numbered": {
        "how_many_with": "skin lot other", "pairing_number": "skin pairing", "pairing_at": "skin number",
        "least_pairing": "skin", "greatest_pairing": "skin", "next_pairing": "skin pairing",
        "pairing_ahead": "skin pairing", "pairings_from": "skin number many", "begun_with": "skin lot",
    },
    "texts": {
        "is_sheet": "thing", "sheet_text": "sheet", "read_sheet": "text", "skin_text": "skin", "read_skin": "text",
    },
    "judge": {
        "is_demand": "thing", "is_so": "demand", "paper_against": "demand", "is_paper_against": "demand thing",
        "reason_for": "demand", "is_reason_for": "demand thing", "first_fallen": "demands",
    },
}
# The classes, by their files: what their methods are passed beside the object.
CLASSES = {"desk": {"Desk": {
    "__init__": "skin arrows", "say": "text", "skin": "", "arrows": "", "first": "", "undo": "", "redo": "", "twin": "",
    "__eq__": "other",
}}}


class InterfaceTest(unittest.TestCase):
    def test_there_are_all_that_the_document_lists(self):
        self.assertEqual(len(FUNCTIONS), 18)
        self.assertEqual(sum(map(len, FUNCTIONS.values())), 158)

    def test_each_class_is_defined_in_its_file_with_its_methods(self):
        for module_name, classes in CLASSES.items():
            module = importlib.import_module("handlepairs." + module_name)
            for name, methods in classes.items():
                cls = getattr(module, name)
                self.assertTrue(inspect.isclass(cls))
                self.assertEqual((cls.__module__, cls.__name__), (module.__name__, name))
                for method, arguments in methods.items():
                    # In the class itself, not only in a base class.
                    told = inspect.signature(vars(cls)[method]).parameters.values()
                    self.assertEqual([own.name for own in told][1:], arguments.split())
                    self.assertEqual({own.kind for own in told}, {inspect.Parameter.POSITIONAL_OR_KEYWORD})

    def test_each_function_is_defined_in_its_file(self):
        for module_name, functions in FUNCTIONS.items():
            module = importlib.import_module("handlepairs." + module_name)
            for name in functions:
                with self.subTest(module=module_name, name=name):
                    function = getattr(module, name)
                    self.assertTrue(inspect.isfunction(function))
                    self.assertEqual(function.__module__, module.__name__)
                    self.assertEqual(function.__name__, name)

    def test_arguments_have_their_names_and_order(self):
        for module_name, functions in FUNCTIONS.items():
            module = importlib.import_module("handlepairs." + module_name)
            for name, arguments in functions.items():
                with self.subTest(module=module_name, name=name):
                    told = inspect.signature(getattr(module, name)).parameters.values()
                    self.assertEqual([own.name for own in told], arguments.split())
                    for own in told:
                        self.assertEqual(own.kind, own.POSITIONAL_OR_KEYWORD)
                        self.assertIs(own.default, own.empty)


if __name__ == "__main__":
    unittest.main()
