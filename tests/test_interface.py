"""[23]: the names of functions and arguments, and the file in which each is defined."""

import importlib
import inspect
import unittest

FUNCTIONS = {
    "signs": {
        "pieces": "text", "text_of": "pieces", "number_of": "piece", "piece_of": "number",
    },
    "skins": {
        "is_skin": "thing", "is_crossing": "skin thing", "edges": "skin", "edge_of": "skin crossing",
        "contrary": "skin crossing", "joined": "skin edge", "edges_at": "skin field", "neighbours": "skin field",
        "edges_joining": "skin field other", "renamed": "skin order turns", "edge_names": "skin order turns",
    },
    "corners": {
        "corners": "skin", "corner_of": "skin field side", "corners_at": "skin field", "ends_of": "skin edge",
        "corner_sizes": "skin", "edges_round": "skin corner", "sizes": "skin", "x_of": "skin", "handles": "skin",
    },
    "trees": {
        "is_lot": "skin thing", "tree_order": "skin", "come_by": "skin", "way_to": "skin field", "field_tree": "skin",
        "corner_tree": "skin", "corner_way": "skin corner other", "joins_fields": "skin lot",
        "joins_corners": "skin lot", "loose": "skin", "handle_rings": "skin", "loops": "skin",
    },
    "rings": {
        "is_ring": "skin thing", "is_simple": "skin ring", "fields_of": "skin ring", "ring_round": "skin corner",
        "ring_back": "skin ring", "ring_from": "skin ring", "lot_of_ring": "skin ring", "class_of_lot": "skin lot",
        "class_of_ring": "skin ring", "put_together": "skin one other", "is_class": "skin thing", "classes": "skin",
        "ring_of_class": "skin one", "is_ring_of": "skin one thing", "corners_within": "skin lot",
    },
    "arrows": {
        "is_arrows": "skin thing", "against": "skin arrows ring", "against_at": "skin arrows",
        "bad_corners": "skin arrows", "are_good": "skin arrows", "turned_lot": "skin arrows lot",
        "mended": "skin arrows", "good_arrows": "skin", "many_good": "skin", "good_at": "skin number",
        "number_of_good": "skin arrows", "odd_reason": "skin",
    },
    "kinds": {
        "kind_of": "skin arrows", "turned_at": "skin arrows fields", "fields_between": "skin arrows other",
        "are_akin": "skin arrows other", "unlike_ring": "skin arrows other", "all_turned": "skin arrows",
        "arrows_of": "skin kind", "many_kinds": "skin", "all_kinds": "skin",
    },
}


class InterfaceTest(unittest.TestCase):
    def test_each_function_is_defined_in_its_file(self):
        for module_name, functions in FUNCTIONS.items():
            module = importlib.import_module("handlepairs." + module_name)
            for name in functions:
                with self.subTest(module=module_name, name=name):
                    function = getattr(module, name)
                    self.assertTrue(inspect.isfunction(function))
                    self.assertEqual(function.__module__, module.__name__)
                    self.assertEqual(function.__name__, name)

    def test_arguments_have_their_names_and_order(self):
        for module_name, functions in FUNCTIONS.items():
            module = importlib.import_module("handlepairs." + module_name)
            for name, arguments in functions.items():
                with self.subTest(module=module_name, name=name):
                    told = inspect.signature(getattr(module, name)).parameters.values()
                    self.assertEqual([own.name for own in told], arguments.split())
                    for own in told:
                        self.assertEqual(own.kind, own.POSITIONAL_OR_KEYWORD)
                        self.assertIs(own.default, own.empty)


if __name__ == "__main__":
    unittest.main()
