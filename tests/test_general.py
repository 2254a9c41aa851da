"""[2]: what holds of every function: lists and tuples, names, nothing changed, new lists, what is unfit, things."""

import copy
import inspect
import random
import unittest

from handlepairs.errors import TooMany, Unfit
from handlepairs.skins import is_crossing, is_skin
from tests.drawn import PAIR, PILLOW, TWIN, as_lists, exchanged, nest, odd_things, raised
from tests.given import (
    PIECES, answered_calls, calls, outcome, refused_thing_calls, some_skins, thing_calls, unfit,
)
from tests.slow import slow_is_ring


class EveryFunctionTest(unittest.TestCase):
    def test_lists_and_tuples_give_equal_results(self):
        rng = random.Random(34)
        for at, (function, given, wanted) in enumerate(answered_calls()):
            own = [exchanged(value, rng) for value in given] if at % 2 else as_lists(given)
            self.assertEqual(outcome(function, *own), wanted, (function.__name__, given))

    def test_the_same_call_answers_the_same_again(self):
        for function, given, wanted in answered_calls():
            self.assertEqual(outcome(function, *copy.deepcopy(given)), wanted, (function.__name__, given))

    def test_most_of_the_calls_here_raise_nothing(self):
        answered = {}
        for function, _, told in answered_calls():
            answered.setdefault(function.__name__, []).append(isinstance(told, str))
        for name, fine in answered.items():
            self.assertGreater(sum(fine), 0, name)

    def test_arguments_by_name_give_equal_results(self):
        for function, given, wanted in answered_calls()[::3]:
            names = list(inspect.signature(function).parameters)
            named = dict(reversed(list(zip(names, given))))
            self.assertEqual(outcome(function, **named), wanted, function.__name__)

    def test_nothing_that_is_handed_in_is_changed(self):
        for function, _, given in calls(1):
            own = as_lists(given)
            kept = repr(own)
            outcome(function, *own)
            self.assertEqual(repr(own), kept)

    def test_what_is_refused_changes_nothing(self):
        for function, kinds, given in calls(1):
            if kinds[0] == "skin":
                own = as_lists(given)
                own[0][0][0] = [0, 0]
                kept = copy.deepcopy(own)
                self.assertEqual(raised(function, *own), (Unfit, {}))
                self.assertEqual(repr(own), repr(kept))

    def test_a_list_that_is_told_is_a_new_one(self):
        found = set()
        for function, given, wanted in answered_calls():
            if isinstance(wanted, str) and wanted.startswith("["):
                found.add(function.__name__)
                told = function(*given)
                told.append("more")
                told.reverse()
                self.assertEqual(outcome(function, *given), wanted)
        self.assertEqual(found, {
            "pieces", "edges", "classes", "all_turned", "all_kinds", "met_evenly", "simple_rings", "all_pairings",
            "pairings_from",
        })

    def test_no_list_stands_in_what_is_told(self):
        for function, _, told in answered_calls():
            if isinstance(told, str):
                self.assertNotIn("[", told[1:], function.__name__)

    def test_what_is_told_may_be_changed_with_no_effect_on_what_was_given(self):
        told = [["a", 0], ["b", 1]]
        skin = as_lists(TWIN)
        for function, _, given in calls(1):
            if len(given) == 1 and given[0] is PIECES:
                function(told)
            elif len(given) == 1 and given[0] is TWIN and raised(function, skin)[0] is None:
                result = function(skin)
                if isinstance(result, list):
                    result.clear()
        self.assertEqual((told, skin), ([["a", 0], ["b", 1]], as_lists(TWIN)))

    def test_true_and_false_are_no_numbers_in_a_skin(self):
        for function, kinds, given in calls(1):
            if kinds[0] == "skin":
                for bad in with_one_bool(given[0]):
                    self.assertEqual(raised(function, bad, *given[1:]), (Unfit, {}))

    def test_a_list_that_holds_itself_is_unfit(self):
        round_list = []
        round_list.append(round_list)
        for function, kinds, given in calls(1):
            for at, kind in enumerate(kinds):
                if kind not in ("text", "piece", "any number", "sheet text"):
                    own = given[:at] + [round_list] + given[at + 1:]
                    self.assertEqual(raised(function, *own), (Unfit, {}), (function.__name__, kind))


class UnfitTest(unittest.TestCase):
    def test_whatever_stands_for_an_argument_else(self):
        for function, kinds, given in calls(1):
            for at, kind in enumerate(kinds):
                for bad in unfit(kind, given[0] if kinds[0] == "skin" else None):
                    own = given[:at] + [bad] + given[at + 1:]
                    self.assertEqual(raised(function, *own), (Unfit, {}), (function.__name__, kind, bad))

    def test_unfit_ahead_of_all_other_errors(self):
        """Numbers that are there nowhere, and skins for which much is refused, ahead of what is unfit or behind it."""
        missing = {"edge": -1, "field": 99, "corner": 10 ** 9}
        for function, kinds, given in calls(1):
            far = [missing.get(kind, own) for kind, own in zip(kinds, given)]
            for at, kind in enumerate(kinds):
                for bad in unfit(kind, given[0] if kinds[0] == "skin" else None)[:4]:
                    own = far[:at] + [bad] + far[at + 1:]
                    self.assertEqual(raised(function, *own), (Unfit, {}), (function.__name__, kind, bad))

    def test_too_many_where_it_is_stated_and_nowhere_else(self):
        wanted = {
            "classes", "all_kinds", "all_turned", "met_evenly", "q_row", "mark", "marks", "simple_rings", "all_pairings",
            "step_rows", "steps", "lot_of", "fewest_turned", "kind_led", "how_many", "sum_of", "part_of", "parts",
            "sum_without", "sum_with", "ways_of", "shares", "share_of", "shares_with", "edge_shares", "met_classes",
            "how_many_with", "pairing_number", "pairing_at", "least_pairing", "greatest_pairing", "next_pairing",
            "pairing_ahead", "pairings_from", "begun_with", "is_so", "paper_against", "reason_for", "first_fallen",
        }
        found = {function.__name__ for function, _, told in answered_calls() if told == (TooMany, {})}
        self.assertEqual(found, wanted)


def with_one_bool(skin):
    """The skin with one number, 0 or 1, in the last row as False or True."""
    for side in range(4):
        for at in range(2):
            number = skin[-1][side][at]
            if number < 2:
                crossing = list(skin[-1][side])
                crossing[at] = bool(number)
                yield skin[:-1] + (skin[-1][:side] + (tuple(crossing),) + skin[-1][side + 1:],)


class ThingTest(unittest.TestCase):
    def test_each_function_answers_true_or_false_whatever_the_thing(self):
        for function, given in thing_calls():
            for thing in odd_things():
                told = function(*given, thing)
                self.assertIsInstance(told, bool)
                if told and function.__name__ in ("is_ring", "is_ring_of"):
                    self.assertIs(slow_is_ring(given[0], thing), True)
                elif told and function.__name__ not in ("is_paper_against", "is_reason_for"):
                    # Else of these () alone is what some functions ask for.
                    self.assertEqual((thing, type(thing)), ((), tuple))
                    self.assertIn(function.__name__, (
                        "is_lot", "is_class", "is_paired_classes", "is_lack", "is_signed_table", "is_even_lot", "is_lot_of",
                    ))

    def test_what_is_stated_for_others_is_raised_whatever_the_thing(self):
        found = set()
        for function, given, error in refused_thing_calls():
            found.add((function.__name__, error[0]))
            for thing in odd_things():
                self.assertEqual(raised(function, *given, thing), error)
        self.assertEqual(found, {
            ("are_step_rows", TooMany), ("is_lot_of", TooMany), ("is_kind_led", TooMany), ("is_kind_led", Unfit),
            ("is_shares", TooMany), ("is_shares", Unfit), ("is_paper_against", TooMany), ("is_reason_for", TooMany),
        })

    def test_a_skin_that_is_none_is_unfit_whatever_the_thing(self):
        for function, given in thing_calls():
            if given:
                for thing in odd_things()[::3]:
                    for bad in (None, given[0][:-1] + ((),), 0):
                        self.assertEqual(raised(function, bad, *given[1:], thing), (Unfit, {}))

    def test_things_by_name_and_skins_as_lists(self):
        for function, given in thing_calls():
            if given:
                names = list(inspect.signature(function).parameters)
                for thing in ((), (0,), ((0, 0),), (1, 1), (0, 0)):
                    told = function(*given, thing)
                    self.assertIs(function(*as_lists(given), thing), told)
                    self.assertIs(function(**dict(zip(names, given + [thing]))), told)

    def test_a_thing_is_not_changed(self):
        for function, given in thing_calls():
            for thing in ([[0]], [(0, [1])], ([0, 1],), [[], [[]]]):
                kept = copy.deepcopy(thing)
                self.assertIs(function(*given, thing), False)
                self.assertEqual(repr(thing), repr(kept))

    def test_odd_things_are_answered_false(self):
        for thing in odd_things():
            self.assertIs(is_skin(thing), False)
            self.assertIs(is_crossing(TWIN, thing), False)

    def test_any_part_of_a_skin_replaced(self):
        others = odd_things() + [nest(0, depth) for depth in (1, 2, 3, 16)] + [[0], [0, 0], [(0, 0)] * 4]
        for skin in (TWIN, PILLOW, PAIR):
            for field in range(len(skin)):
                for other in others:
                    self.assertIs(is_skin(skin[:field] + (other,) + skin[field + 1:]), False)
                    for side in range(4):
                        row = skin[field][:side] + (other,) + skin[field][side + 1:]
                        self.assertIs(is_skin(skin[:field] + (row,) + skin[field + 1:]), False)

    def test_any_number_of_a_skin_replaced(self):
        for skin in (TWIN, PILLOW, PAIR):
            for bad in with_one_bool(skin):
                self.assertEqual(bad, skin)
                self.assertIs(is_skin(bad), False)
            for other in (None, "0", "1", (0,), [0], (), -1, 10 ** 40, nest(1, 17), nest([], 16)):
                row = ((skin[0][0][0], other),) + skin[0][1:]
                self.assertIs(is_skin((row,) + skin[1:]), False)
                row = ((other, skin[0][0][1]),) + skin[0][1:]
                self.assertIs(is_skin((row,) + skin[1:]), False)

    def test_a_list_is_no_tuple(self):
        rows = list(map(list, PAIR))
        self.assertIs(is_skin(PAIR), True)
        for thing in (
            list(PAIR), as_lists(PAIR), tuple(rows), (list(PAIR[0]),) + PAIR[1:],
            PAIR[:2] + (PAIR[2][:3] + (list(PAIR[2][3]),),),
        ):
            self.assertIs(is_skin(thing), False)
        self.assertIs(is_crossing(PAIR, (2, 3)), True)
        self.assertIs(is_crossing(as_lists(PAIR), (2, 3)), True)
        self.assertIs(is_crossing(PAIR, [2, 3]), False)

    def test_twenty_deep(self):
        skins = some_skins()[:4]
        for inner in (0, True, None, "a", (), [], "b" * 1000):
            for make in (tuple, list):
                thing = inner
                for depth in range(20):
                    self.assertIs(is_skin(thing), False)
                    for skin in skins:
                        self.assertIs(is_crossing(skin, thing), False)
                    thing = make([thing] * (1 + depth % 2))


if __name__ == "__main__":
    unittest.main()
