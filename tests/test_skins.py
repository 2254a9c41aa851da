"""[3], [5]: skins."""

import random
import unittest

from handlepairs.errors import NoEdge, NoField, Unfit
from handlepairs.skins import (
    contrary, edge_names, edge_of, edges, edges_at, edges_joining, is_crossing, is_skin, joined, neighbours, renamed,
)
from tests.drawn import (
    BALL_OF_ONE, ONE, PAIR, PILLOW, TWIN, drawn_order, drawn_skins, grid, hangs_together, matchings, odd_things,
    raised, ring_of, skin_of, small_skins,
)

WITH_FIELD = (edges_at, neighbours)


def new_crossing(crossing, order, turns):
    """What the crossing is called in the skin renamed."""
    place = list(order).index(crossing[0])
    return place, (crossing[1] - turns[place]) % 4


class IsSkinTest(unittest.TestCase):
    def test_named_ones(self):
        for skin in (PILLOW, TWIN, PAIR, BALL_OF_ONE, ONE, grid(3, 4), ring_of(12)):
            self.assertIs(is_skin(skin), True)

    def test_all_sewings_of_one_field(self):
        found = [skin_of(sewn, 1) for sewn in matchings([(0, side) for side in range(4)])]
        self.assertEqual(len(found), 3)
        for skin in found:
            self.assertIs(is_skin(skin), True)

    def test_all_sewings_of_two_fields(self):
        crossings = [(field, side) for field in range(2) for side in range(4)]
        found = [skin_of(sewn, 2) for sewn in matchings(crossings)]
        self.assertEqual(len(found), 105)
        for skin in found:
            self.assertIs(is_skin(skin), hangs_together(skin))
        self.assertEqual(sum(map(is_skin, found)), 96)

    def test_drawn_ones(self):
        for skin in drawn_skins(1):
            self.assertIs(is_skin(skin), True)

    def test_fields_that_do_not_hang_together(self):
        moved = tuple(tuple((there + 1, side) for there, side in row) for row in PILLOW)
        for first, second in ((ONE, moved), (BALL_OF_ONE, moved)):
            self.assertIs(is_skin(first + second), False)
        two = tuple(tuple((there + 6, side) for there, side in row) for row in ring_of(6))
        self.assertIs(is_skin(ring_of(6) + two), False)

    def test_a_side_sewn_to_itself(self):
        self.assertIs(is_skin((((0, 0), (0, 2), (0, 1), (0, 3)),)), False)
        self.assertIs(is_skin((((0, 0), (0, 1), (0, 2), (0, 3)),)), False)
        for skin in drawn_skins(2, 2):
            rows = [list(row) for row in skin]
            field, side = rows[-1][3]
            rows[-1][3], rows[field][side] = (len(rows) - 1, 3), (field, side)
            self.assertIs(is_skin(tuple(map(tuple, rows))), False)

    def test_a_side_not_sewn_back(self):
        rng = random.Random(3)
        for skin in drawn_skins(3, 3):
            rows = [list(row) for row in skin]
            field, side = rng.randrange(len(rows)), rng.randrange(4)
            there = (rng.randrange(len(rows)), rng.randrange(4))
            if there != rows[field][side]:
                rows[field][side] = there
                self.assertIs(is_skin(tuple(map(tuple, rows))), False)

    def test_numbers_that_are_none_of_it(self):
        for bad in ((1, 4), (1, -1), (2, 0), (-1, 0), (-2, 0), (0, 10 ** 30)):
            for at in range(4):
                row = PILLOW[0][:at] + (bad,) + PILLOW[0][at + 1:]
                self.assertIs(is_skin((row, PILLOW[1])), False)

    def test_sides_from_the_end_are_none(self):
        # -1 for 3, or -2 for FIELD 0, would be sewn back if one could count from the end.
        self.assertIs(is_skin((((0, 2), (0, -1), (0, 0), (0, 1)),)), False)
        self.assertIs(is_skin((((1, 0), (1, 3), (1, 2), (1, 1)), ((-2, 0), (0, 3), (0, 2), (0, 1)))), False)

    def test_lengths(self):
        self.assertIs(is_skin(()), False)
        for skin in (PILLOW, TWIN, PAIR, ONE):
            for wrong in (
                skin[:-1], skin + skin, skin + ((),), skin + (skin[0],), tuple(row[:3] for row in skin),
                tuple(row + row[:1] for row in skin), (skin,), skin[0],
                tuple(tuple(own[:1] for own in row) for row in skin),
                tuple(tuple(own + (0,) for own in row) for row in skin),
            ):
                self.assertIs(is_skin(wrong), False)

    def test_big_ones(self):
        big = ring_of(30000)
        self.assertIs(is_skin(big), True)
        self.assertIs(is_skin(big[:-1]), False)
        self.assertIs(is_skin(big[:-1] + (list(big[-1]),)), False)
        self.assertIs(is_skin(big[:-1] + (((0, 2), (29999, 3), (29998, 0), (29999, True)),)), False)


class OneSkinTest(unittest.TestCase):
    def check_edges(self, skin):
        crossings = [(field, side) for field in range(len(skin)) for side in range(4)]
        told = edges(skin)
        self.assertEqual(len(told), 2 * len(skin))
        self.assertEqual(told, sorted(own for own in crossings if own < skin[own[0]][own[1]]))
        numbers = [edge_of(skin, own) for own in crossings]
        self.assertEqual(sorted(numbers), sorted(2 * list(range(2 * len(skin)))))
        for crossing, edge in zip(crossings, numbers):
            other = contrary(skin, crossing)
            self.assertEqual(other, skin[crossing[0]][crossing[1]])
            self.assertNotEqual(other, crossing)
            self.assertEqual(contrary(skin, other), crossing)
            self.assertEqual(edge_of(skin, other), edge)
            self.assertEqual(told[edge], min(crossing, other))

    def check_fields(self, skin):
        told = edges(skin)
        pairs = [(own[0], skin[own[0]][own[1]][0]) for own in told]
        self.assertEqual([joined(skin, edge) for edge in range(len(told))], pairs)
        for field in range(len(skin)):
            self.assertEqual(edges_at(skin, field), tuple(edge_of(skin, (field, side)) for side in range(4)))
            near = tuple(sorted({there for there, _ in skin[field]} - {field}))
            self.assertEqual(neighbours(skin, field), near)
            for other in range(len(skin)):
                both = tuple(edge for edge, pair in enumerate(pairs) if set(pair) == {field, other})
                self.assertEqual(edges_joining(skin, field, other), both)
                self.assertEqual(bool(both) and field != other, other in near)

    def test_all_small_ones(self):
        for skin in small_skins():
            with self.subTest(skin=skin):
                self.check_edges(skin)
                self.check_fields(skin)

    def test_drawn_ones(self):
        for skin in drawn_skins(11):
            with self.subTest(skin=skin):
                self.check_edges(skin)
                self.check_fields(skin)

    def test_a_field_sewn_to_itself(self):
        self.assertEqual(edges_joining(ONE, 0, 0), (0, 1))
        self.assertEqual(edges_at(ONE, 0), (0, 1, 0, 1))
        self.assertEqual(neighbours(ONE, 0), ())
        self.assertEqual(joined(ONE, 1), (0, 0))
        self.assertEqual(edges_joining(PILLOW, 0, 0), ())
        self.assertEqual(edges_joining(PILLOW, 1, 0), (0, 1, 2, 3))
        self.assertEqual(edges_joining(ring_of(4), 0, 2), ())


class RenamedTest(unittest.TestCase):
    def check_renamed(self, skin, order, turns):
        new = renamed(skin, order, turns)
        self.assertIs(is_skin(new), True)
        for field in range(len(skin)):
            for side in range(4):
                field_now, side_now = new_crossing((field, side), order, turns)
                self.assertEqual(new[field_now][side_now], new_crossing(skin[field][side], order, turns))
        for place, (field, turn) in enumerate(zip(order, turns)):
            self.assertEqual(new_crossing((field, turn), order, turns), (place, 0))
        return new

    def check_back(self, skin, new, order, turns):
        back_order = tuple(order.index(field) for field in range(len(skin)))
        back_turns = tuple(-turns[place] % 4 for place in back_order)
        self.assertEqual(renamed(new, back_order, back_turns), skin)

    def check_names(self, skin, new, order, turns):
        names = edge_names(skin, order, turns)
        self.assertIsInstance(names, tuple)
        self.assertEqual(sorted(names), list(range(2 * len(skin))))
        for edge, crossing in enumerate(edges(skin)):
            self.assertEqual(edge_of(new, new_crossing(crossing, order, turns)), names[edge])

    def check_both(self, skin, order, turns):
        new = self.check_renamed(skin, order, turns)
        self.check_back(skin, new, order, turns)
        self.check_names(skin, new, order, turns)

    def test_drawn_ones(self):
        rng = random.Random(12)
        for skin in drawn_skins(12):
            for _ in range(3):
                order, turns = drawn_order(rng, skin)
                with self.subTest(skin=skin, order=order, turns=turns):
                    self.check_both(skin, order, turns)

    def test_all_small_ones(self):
        for skin in small_skins():
            for turn in range(16):
                turns = (turn % 4, turn // 4)[:len(skin)]
                self.check_both(skin, tuple(reversed(range(len(skin)))), turns)

    def test_nothing_renamed(self):
        for skin in drawn_skins(13, 2):
            many = len(skin)
            self.assertEqual(renamed(skin, tuple(range(many)), (0,) * many), skin)
            self.assertEqual(edge_names(skin, tuple(range(many)), (0,) * many), tuple(range(2 * many)))

    def test_what_is_no_order_and_no_turns(self):
        bad_orders = (
            None, 0, "01", (), (0,), (0, 1, 2), (0, 0), (1, 1), (0, 2), (-1, 0), (0, -1), (0, True), (False, 1), (0, None),
            (0, "1"), (0, 1.0), ((0,), (1,)), {0: 1, 1: 0}, (10 ** 9, 0), [0, [1]],
        )
        bad_turns = (
            None, 3, "00", (), (0,), (0, 0, 0), (0, 4), (-1, 0), (0, True), (False, 0), (0, None), (0, "1"), (0, 1.0),
            {0: 1, 1: 0}, (10 ** 9, 0), [0, [1]],
        )
        for function in (renamed, edge_names):
            for order in bad_orders:
                for turns in ((0, 0), None, (0, 4)):
                    self.assertEqual(raised(function, TWIN, order, turns), (Unfit, {}), (order, turns))
            for turns in bad_turns:
                self.assertEqual(raised(function, TWIN, (1, 0), turns), (Unfit, {}), turns)


class IsCrossingTest(unittest.TestCase):
    def test_all_pairs(self):
        for skin in (ONE, TWIN, PAIR, ring_of(12)):
            for field in range(-3, 15):
                for side in range(-5, 9):
                    wanted = 0 <= field < len(skin) and 0 <= side < 4
                    self.assertIs(is_crossing(skin, (field, side)), wanted)

    def test_whatever_else(self):
        for thing in odd_things() + [
            [0, 1], (0,), (0, 1, 2), (0, True), (False, 0), (0, None), (0, "1"), ((0,), 1), ((0, 1),), ([0], 1), 0, 1,
        ]:
            self.assertIs(is_crossing(TWIN, thing), False)

    def test_no_skin_whatever_the_thing(self):
        for thing in odd_things() + [(0, 0)]:
            self.assertEqual(raised(is_crossing, TWIN[:1], thing), (Unfit, {}))


class RefusalsTest(unittest.TestCase):
    def test_no_crossing(self):
        for function in (edge_of, contrary):
            for crossing in odd_things() + [
                (2, 0), (0, 4), (-1, 0), (0, -1), (0, True), (True, 0), (0,), (0, 1, 2), [0, 4], ["0", 0], 1.5, {0: 1},
            ]:
                self.assertEqual(raised(function, TWIN, crossing), (Unfit, {}))

    def test_no_skin_ahead_of_all(self):
        for skin in odd_things() + [1.5, {}, {0: 1}, b"skin", TWIN[:1], [TWIN], list(TWIN[:1]), ((1, 2), (3, 4))]:
            for crossing in ((0, 0), (9, 9), None):
                self.assertEqual(raised(edge_of, skin, crossing), (Unfit, {}))
                self.assertEqual(raised(contrary, skin, crossing), (Unfit, {}))
            for number in (0, 99, -1, None):
                self.assertEqual(raised(joined, skin, number), (Unfit, {}))
                self.assertEqual(raised(edges_joining, skin, number, 99), (Unfit, {}))
                for function in WITH_FIELD:
                    self.assertEqual(raised(function, skin, number), (Unfit, {}))
            self.assertEqual(raised(edges, skin), (Unfit, {}))
            self.assertEqual(raised(renamed, skin, (0, 1), (0, 0)), (Unfit, {}))
            self.assertEqual(raised(edge_names, skin, (0, 1), (0, 0)), (Unfit, {}))

    def test_no_number_ahead_of_no_field(self):
        for bad in (None, True, False, "0", (0,), [0], 1.0, (), {}):
            for function in WITH_FIELD + (joined,):
                self.assertEqual(raised(function, TWIN, bad), (Unfit, {}))
            for good in (0, 2, -1):
                self.assertEqual(raised(edges_joining, TWIN, good, bad), (Unfit, {}))
                self.assertEqual(raised(edges_joining, TWIN, bad, good), (Unfit, {}))

    def test_no_field(self):
        for skin in (ONE, TWIN, ring_of(12)):
            for bad in (len(skin), -1, -len(skin), 10 ** 6, 10 ** 30):
                for function in WITH_FIELD:
                    self.assertEqual(raised(function, skin, bad), (NoField, {"field": bad}))
                self.assertEqual(raised(edges_joining, skin, bad, 0), (NoField, {"field": bad}))
                self.assertEqual(raised(edges_joining, skin, 0, bad), (NoField, {"field": bad}))
                self.assertEqual(raised(edges_joining, skin, bad, bad + 100), (NoField, {"field": bad}))

    def test_no_edge(self):
        for skin in (ONE, TWIN, ring_of(12)):
            for bad in (2 * len(skin), -1, -2 * len(skin), 10 ** 6, 10 ** 30):
                self.assertEqual(raised(joined, skin, bad), (NoEdge, {"edge": bad}))

    def test_the_last_ones_are_there(self):
        for skin in (ONE, TWIN, ring_of(12)):
            last = len(skin) - 1
            self.assertEqual(len(edges_at(skin, last)), 4)
            self.assertEqual(joined(skin, 2 * last + 1), joined(skin, len(edges(skin)) - 1))


if __name__ == "__main__":
    unittest.main()
