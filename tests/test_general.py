"""[2]: what holds of every function: lists and tuples, names, nothing changed, new lists, things."""

import copy
import importlib
import inspect
import random
import unittest

from handlepairs.errors import Unfit
from handlepairs.skins import is_crossing, is_skin
from tests.drawn import PAIR, PILLOW, TWIN, as_lists, drawn_skins, exchanged, nest, odd_things
from tests.test_interface import FUNCTIONS

PIECES = [("ab", 0), ("-1", 2), ("c", 2)]

GIVEN = {
    "text": ["ab # c\n-1", "", "a\n\nb"],
    "pieces": [PIECES, []],
    "piece": ["-12", "07", ""],
    "number": [0, -7, 10 ** 11],
    "crossing": [(0, 1), (0, 0)],
    "edge": [0, 1],
    "field": [0],
    "other": [0],
    "side": [0, 3],
    "corner": [0],
}


def calls():
    """(function, argument names, arguments) of ordinary calls of each function, but for a thing."""
    skins = [TWIN, PILLOW, PAIR] + list(drawn_skins(31, 1))
    for module_name, functions in FUNCTIONS.items():
        module = importlib.import_module("handlepairs." + module_name)
        for name in functions:
            function = getattr(module, name)
            names = list(inspect.signature(function).parameters)
            if "thing" not in names:
                for skin in skins if "skin" in names else [None]:
                    for at in range(3):
                        yield function, names, [one_given(own, skin, at) for own in names]


def one_given(name, skin, at):
    if name == "skin":
        return skin
    if name == "order":
        return tuple(reversed(range(len(skin))))
    if name == "turns":
        return tuple((at + field) % 4 for field in range(len(skin)))
    choices = GIVEN[name]
    return choices[at % len(choices)]


class EveryFunctionTest(unittest.TestCase):
    def test_lists_and_tuples_give_equal_results(self):
        rng = random.Random(32)
        for function, _, given in calls():
            with self.subTest(function=function.__name__, given=given):
                wanted = repr(function(*given))
                self.assertEqual(repr(function(*as_lists(given))), wanted)
                for _ in range(3):
                    self.assertEqual(repr(function(*[exchanged(value, rng) for value in given])), wanted)

    def test_arguments_by_name_give_equal_results(self):
        for function, names, given in calls():
            with self.subTest(function=function.__name__, given=given):
                named = dict(reversed(list(zip(names, given))))
                self.assertEqual(repr(function(**named)), repr(function(*given)))

    def test_nothing_that_is_handed_in_is_changed(self):
        for function, _, given in calls():
            for own in (given, as_lists(given)):
                kept = copy.deepcopy(own)
                function(*own)
                self.assertEqual(repr(own), repr(kept))

    def test_what_is_refused_changes_nothing(self):
        for function, names, given in calls():
            if names[0] == "skin":
                own = as_lists(given)
                own[0][0][0] = [0, 0]
                kept = copy.deepcopy(own)
                self.assertRaises(Unfit, function, *own)
                self.assertEqual(repr(own), repr(kept))

    def test_a_list_that_is_told_is_a_new_one(self):
        lists = 0
        for function, _, given in calls():
            told = function(*given)
            if isinstance(told, list):
                lists += 1
                kept = list(told)
                told.append("more")
                told.reverse()
                self.assertEqual(function(*given), kept)
        self.assertGreater(lists, 0)

    def test_what_is_told_may_be_changed_with_no_effect_on_what_was_given(self):
        told = [["a", 0], ["b", 1]]
        skin = as_lists(TWIN)
        for function, _, given in calls():
            if len(given) == 1 and given[0] is PIECES:
                function(told)
            elif len(given) == 1 and given[0] is TWIN:
                result = function(skin)
                if isinstance(result, list):
                    result.clear()
        self.assertEqual((told, skin), ([["a", 0], ["b", 1]], as_lists(TWIN)))

    def test_true_and_false_are_no_numbers_in_a_skin(self):
        for function, names, given in calls():
            if names[0] == "skin":
                for bad in with_one_bool(given[0]):
                    with self.subTest(function=function.__name__, bad=bad):
                        self.assertRaises(Unfit, function, bad, *given[1:])

    def test_a_list_that_holds_itself_is_unfit(self):
        round_list = []
        round_list.append(round_list)
        for function, names, given in calls():
            if names[0] in ("skin", "pieces"):
                self.assertRaises(Unfit, function, round_list, *given[1:])


def with_one_bool(skin):
    """The skin with one number, 0 or 1, in the last row as False or True."""
    for side in range(4):
        for at in range(2):
            number = skin[-1][side][at]
            if number < 2:
                crossing = list(skin[-1][side])
                crossing[at] = bool(number)
                yield skin[:-1] + (skin[-1][:side] + (tuple(crossing),) + skin[-1][side + 1:],)


class ThingTest(unittest.TestCase):
    def test_odd_things_are_answered_false(self):
        for thing in odd_things():
            self.assertIs(is_skin(thing), False)
            self.assertIs(is_crossing(TWIN, thing), False)

    def test_any_part_of_a_skin_replaced(self):
        others = odd_things() + [nest(0, depth) for depth in (1, 2, 3, 16)] + [[0], [0, 0], [(0, 0)] * 4]
        for skin in (TWIN, PILLOW, PAIR):
            for field in range(len(skin)):
                for other in others:
                    self.assertIs(is_skin(skin[:field] + (other,) + skin[field + 1:]), False)
                    for side in range(4):
                        row = skin[field][:side] + (other,) + skin[field][side + 1:]
                        self.assertIs(is_skin(skin[:field] + (row,) + skin[field + 1:]), False)

    def test_any_number_of_a_skin_replaced(self):
        for skin in (TWIN, PILLOW, PAIR):
            for bad in with_one_bool(skin):
                self.assertEqual(bad, skin)
                self.assertIs(is_skin(bad), False)
            for other in (None, "0", "1", (0,), [0], (), -1, 10 ** 40, nest(1, 17), nest([], 16)):
                row = ((skin[0][0][0], other),) + skin[0][1:]
                self.assertIs(is_skin((row,) + skin[1:]), False)
                row = ((other, skin[0][0][1]),) + skin[0][1:]
                self.assertIs(is_skin((row,) + skin[1:]), False)

    def test_a_list_is_no_tuple(self):
        rows = list(map(list, PAIR))
        self.assertIs(is_skin(PAIR), True)
        for thing in (
            list(PAIR), as_lists(PAIR), tuple(rows), (list(PAIR[0]),) + PAIR[1:],
            PAIR[:2] + (PAIR[2][:3] + (list(PAIR[2][3]),),),
        ):
            self.assertIs(is_skin(thing), False)
        self.assertIs(is_crossing(PAIR, (2, 3)), True)
        self.assertIs(is_crossing(as_lists(PAIR), (2, 3)), True)
        self.assertIs(is_crossing(PAIR, [2, 3]), False)

    def test_twenty_deep(self):
        for inner in (0, True, None, "a", (), [], "b" * 1000):
            for make in (tuple, list):
                thing = inner
                for depth in range(20):
                    self.assertIs(is_skin(thing), False)
                    self.assertIs(is_crossing(TWIN, thing), False)
                    thing = make([thing] * (1 + depth % 2))


if __name__ == "__main__":
    unittest.main()
