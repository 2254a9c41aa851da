"""[3], [6]: corners, X, handles."""

import random
import unittest

from handlepairs.corners import (
    corner_of, corner_sizes, corners, corners_at, edges_round, ends_of, handles, sizes, x_of,
)
from handlepairs.errors import NoCorner, NoEdge, NoField, Unfit
from handlepairs.skins import edge_of, edges, renamed
from tests.drawn import (
    BALL_OF_ONE, ONE, PAIR, PILLOW, TWIN, drawn_order, drawn_skin, drawn_skins, grid, odd_things, raised, ring_of,
    small_skins,
)
from tests.slow import slow_corners


class CornersTest(unittest.TestCase):
    def check_corners(self, skin):
        told = corners(skin)
        self.assertIsInstance(told, tuple)
        self.assertEqual([set(pairs) for pairs in told], [set(own) for own in slow_corners(skin)])
        for pairs in told:
            self.assertEqual(pairs[0], min(pairs))
            self.assertEqual(len(set(pairs)), len(pairs))
            for (field, side), following in zip(pairs, pairs[1:] + pairs[:1]):
                self.assertEqual(skin[field][(side - 1) % 4], following)
        self.assertEqual(corner_sizes(skin), tuple(len(pairs) for pairs in told))
        self.assertEqual(sum(corner_sizes(skin)), 4 * len(skin))

    def check_places(self, skin):
        told = corners(skin)
        for field in range(len(skin)):
            found = tuple(corner_of(skin, field, side) for side in range(4))
            self.assertEqual(corners_at(skin, field), found)
            for side, corner in enumerate(found):
                self.assertIn((field, side), told[corner])

    def check_edges(self, skin):
        told = corners(skin)
        at_ends = []
        for edge, (field, side) in enumerate(edges(skin)):
            wanted = (corner_of(skin, field, side), corner_of(skin, field, (side + 1) % 4))
            self.assertEqual(ends_of(skin, edge), wanted)
            # The greater CROSSING has the same ends, the other way round.
            there, at = skin[field][side]
            self.assertEqual((corner_of(skin, there, (at + 1) % 4), corner_of(skin, there, at)), wanted)
            at_ends += wanted
        self.assertEqual(tuple(at_ends.count(corner) for corner in range(len(told))), corner_sizes(skin))
        for corner, pairs in enumerate(told):
            wanted = tuple(edge_of(skin, (field, (side - 1) % 4)) for field, side in pairs)
            self.assertEqual(edges_round(skin, corner), wanted)

    def check_numbers(self, skin):
        fields, edge_count, corner_count = sizes(skin)
        self.assertIsInstance(sizes(skin), tuple)
        self.assertEqual((fields, edge_count, corner_count), (len(skin), len(edges(skin)), len(corners(skin))))
        self.assertEqual(x_of(skin), corner_count - edge_count + fields)
        self.assertEqual(x_of(skin) % 2, 0)
        self.assertLessEqual(x_of(skin), 2)
        self.assertEqual(handles(skin), (2 - x_of(skin)) // 2)
        self.assertIsInstance(handles(skin), int)
        self.assertGreaterEqual(handles(skin), 0)

    def check_all(self, skin):
        with self.subTest(skin=skin):
            self.check_corners(skin)
            self.check_places(skin)
            self.check_edges(skin)
            self.check_numbers(skin)

    def test_all_small_ones(self):
        for skin in small_skins():
            self.check_all(skin)

    def test_drawn_ones(self):
        for skin in drawn_skins(21):
            self.check_all(skin)

    def test_named_ones(self):
        for skin in (PILLOW, TWIN, PAIR, ONE, BALL_OF_ONE):
            self.check_all(skin)
        self.assertEqual([handles(own) for own in (PILLOW, TWIN, PAIR, ONE, BALL_OF_ONE)], [0, 1, 2, 1, 0])

    def test_skins_without_handles_with_one_and_with_many(self):
        rng = random.Random(22)
        for many in range(1, 13):
            self.assertEqual(handles(drawn_skin(rng, many)), 0)
            self.assertEqual(handles(ring_of(many)), 1)
        for rows, columns in ((2, 2), (3, 4), (2, 6), (3, 3)):
            self.assertEqual(handles(grid(rows, columns)), 1)
            self.assertEqual(corner_sizes(grid(rows, columns)), (4,) * rows * columns)
        self.assertGreater(max(handles(own) for own in drawn_skins(21)), 3)

    def test_a_corner_at_one_field_alone(self):
        self.assertEqual(corners(BALL_OF_ONE), (((0, 0), (0, 2)), ((0, 1),), ((0, 3),)))
        self.assertEqual(ends_of(BALL_OF_ONE, 0), (0, 1))
        self.assertEqual(edges_round(BALL_OF_ONE, 0), (1, 0))
        self.assertEqual(corners(ONE), (((0, 0), (0, 1), (0, 2), (0, 3)),))
        self.assertEqual(ends_of(ONE, 1), (0, 0))

    def test_renamed_the_numbers_stay(self):
        rng = random.Random(23)
        for skin in drawn_skins(23):
            order, turns = drawn_order(rng, skin)
            new = renamed(skin, order, turns)
            with self.subTest(skin=skin, order=order, turns=turns):
                self.assertEqual(sorted(corner_sizes(new)), sorted(corner_sizes(skin)))
                self.assertEqual((sizes(new), x_of(new), handles(new)), (sizes(skin), x_of(skin), handles(skin)))
                self.check_corners(new)


class RefusalsTest(unittest.TestCase):
    def test_no_skin_ahead_of_all(self):
        for skin in odd_things() + [1.5, {}, {0: 1}, b"skin", TWIN[:1], [TWIN], list(TWIN[:1]), ((1, 2), (3, 4))]:
            for function in (corners, corner_sizes, sizes, x_of, handles):
                self.assertEqual(raised(function, skin), (Unfit, {}))
            for number in (0, 99, -1, None):
                for function in (corners_at, ends_of, edges_round):
                    self.assertEqual(raised(function, skin, number), (Unfit, {}))
                self.assertEqual(raised(corner_of, skin, number, 9), (Unfit, {}))

    def test_no_number_ahead_of_all_that_is_not_there(self):
        for bad in (None, True, False, "0", (0,), [0], 1.0, (), {}):
            for function in (corners_at, ends_of, edges_round):
                self.assertEqual(raised(function, TWIN, bad), (Unfit, {}))
            for side in (0, 3, 4, None):
                self.assertEqual(raised(corner_of, TWIN, bad, side), (Unfit, {}))
            for field in (0, 1, 2, -1):
                self.assertEqual(raised(corner_of, TWIN, field, bad), (Unfit, {}))

    def test_no_side_ahead_of_no_field(self):
        for side in (4, -1, -4, 10 ** 20):
            for field in (0, 1, 2, -1):
                self.assertEqual(raised(corner_of, TWIN, field, side), (Unfit, {}))

    def test_no_field(self):
        for skin in (ONE, TWIN, ring_of(12)):
            for bad in (len(skin), -1, -len(skin), 10 ** 6, 10 ** 30):
                self.assertEqual(raised(corners_at, skin, bad), (NoField, {"field": bad}))
                for side in range(4):
                    self.assertEqual(raised(corner_of, skin, bad, side), (NoField, {"field": bad}))

    def test_no_edge(self):
        for skin in (ONE, TWIN, ring_of(12)):
            for bad in (2 * len(skin), -1, -2 * len(skin), 10 ** 6, 10 ** 30):
                self.assertEqual(raised(ends_of, skin, bad), (NoEdge, {"edge": bad}))

    def test_no_corner(self):
        for skin in (ONE, TWIN, PILLOW, ring_of(12)):
            many = len(corners(skin))
            for bad in (many, -1, -many, 10 ** 6, 10 ** 30):
                self.assertEqual(raised(edges_round, skin, bad), (NoCorner, {"corner": bad}))
            self.assertEqual(len(edges_round(skin, many - 1)), corner_sizes(skin)[-1])


if __name__ == "__main__":
    unittest.main()
