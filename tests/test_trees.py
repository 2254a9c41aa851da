"""[3], [7]: the field tree, the corner tree, what is loose, handle rings, loops."""

import itertools
import random
import unittest

from handlepairs.errors import NoCorner, NoField, Unfit
from handlepairs.rings import is_ring, is_simple
from handlepairs.trees import (
    come_by, corner_tree, corner_way, field_tree, handle_rings, is_lot, joins_corners, joins_fields, loops, loose,
    tree_order, way_to,
)
from tests.drawn import BALL_OF_ONE, ONE, PILLOW, TWIN, odd_things, raised, ring_of, small_skins
from tests.shapes import QUAD, ROW, SIX, chain_of, drawn_lot, many_skins, named_skins
from tests.slow import (
    ends_evenly, slow_contrary, slow_corners, slow_corners_hang_together, slow_edge_of, slow_edges, slow_ends,
    slow_fields_hang_together, slow_handle_rings, slow_handles, slow_joined, slow_loops, slow_lots, slow_tree,
)


class IsLotTest(unittest.TestCase):
    def test_sets_of_edges(self):
        for skin in named_skins():
            edges = range(2 * len(skin))
            for lot in ((), tuple(edges), tuple(edges)[::2], tuple(edges)[-1:], (0,)):
                self.assertIs(is_lot(skin, lot), True)

    def test_all_tuples_of_some_numbers(self):
        for many in range(4):
            for lot in itertools.product(range(-2, 4), repeat=many):
                wanted = all(0 <= edge < 2 for edge in lot) and list(lot) == sorted(set(lot))
                self.assertIs(is_lot(ONE, lot), wanted)

    def test_the_first_edge_that_is_none(self):
        for skin in (ONE, TWIN, SIX, ring_of(12)):
            self.assertIs(is_lot(skin, (2 * len(skin) - 1,)), True)
            self.assertIs(is_lot(skin, (2 * len(skin),)), False)

    def test_whatever_else(self):
        things = [thing for thing in odd_things() if thing != ()]
        for thing in things + [
            [0], [], (0, 1, 1), (1, 0), (True,), (False,), (0, True), (None,), ("0",), ((0,),), (0, [1]), 0, 3, (0, 10 ** 40),
            tuple(range(5000)), (0.0,),
        ]:
            self.assertIs(is_lot(TWIN, thing), False)
        self.assertIs(is_lot(TWIN, ()), True)

    def test_no_skin_whatever_the_thing(self):
        for thing in odd_things() + [(0,)]:
            self.assertEqual(raised(is_lot, TWIN[:1], thing), (Unfit, {}))


class FieldTreeTest(unittest.TestCase):
    def test_order_and_what_leads_to_each_field(self):
        for skin in list(small_skins()) + many_skins(41, 6):
            order, crossings = slow_tree(skin)
            self.assertEqual(tree_order(skin), tuple(order))
            by = come_by(skin)
            self.assertIsInstance(by, tuple)
            self.assertEqual(len(by), len(skin))
            self.assertIsNone(by[0])
            self.assertEqual(sorted(by[1:]), sorted(crossings))
            for field in range(1, len(skin)):
                self.assertEqual(slow_contrary(skin, by[field])[0], field)
            wanted = tuple(sorted(slow_edge_of(skin, own) for own in crossings))
            self.assertEqual(field_tree(skin), wanted)
            self.assertEqual(len(wanted), len(skin) - 1)

    def test_sides_are_taken_from_0_to_3(self):
        # Two edges lead from 0 to 1 in TWIN, four in PILLOW: that of the least side is of the tree.
        self.assertEqual(come_by(TWIN), (None, (0, 0)))
        self.assertEqual(come_by(PILLOW), (None, (0, 0)))
        self.assertEqual(tree_order(QUAD), (0, 1, 2, 3))
        self.assertEqual(come_by(QUAD), (None, (0, 0), (0, 1), (1, 1)))
        self.assertEqual(tree_order(SIX), (0, 5, 4, 1, 2, 3))

    def test_fields_are_taken_in_the_order_in_which_they_are_come_to(self):
        self.assertEqual(tree_order(ring_of(6)), (0, 1, 5, 2, 4, 3))
        self.assertEqual(come_by(ring_of(6))[3], (2, 0))

    def test_ways(self):
        for skin in list(small_skins()) + many_skins(42, 4):
            _, crossings = slow_tree(skin)
            for field in range(len(skin)):
                way = way_to(skin, field)
                self.assertIsInstance(way, tuple)
                here = 0
                for crossing in way:
                    self.assertIn(crossing, crossings)
                    self.assertEqual(crossing[0], here)
                    here = slow_contrary(skin, crossing)[0]
                self.assertEqual(here, field)
                self.assertEqual(len({own for own, _ in way} | {field}), len(way) + 1)
            self.assertEqual(way_to(skin, 0), ())

    def test_one_field_alone(self):
        for skin in (ONE, BALL_OF_ONE):
            self.assertEqual((tree_order(skin), come_by(skin), field_tree(skin)), ((0,), (None,), ()))


class CornerTreeTest(unittest.TestCase):
    def test_which_edges(self):
        for skin in list(small_skins()) + many_skins(43, 6):
            of_fields, of_corners, left = slow_lots(skin)
            self.assertEqual(corner_tree(skin), tuple(of_corners))
            self.assertEqual(loose(skin), tuple(left))
            self.assertEqual(len(of_corners), len(slow_corners(skin)) - 1)
            self.assertEqual(len(left), 2 * slow_handles(skin))
            self.assertEqual(
                sorted(field_tree(skin) + corner_tree(skin) + loose(skin)), list(range(2 * len(skin)))
            )
            self.assertIs(slow_corners_hang_together(skin, corner_tree(skin)), True)
            self.assertIs(slow_fields_hang_together(skin, field_tree(skin)), True)

    def test_without_handle_nothing_is_loose(self):
        for skin in (PILLOW, BALL_OF_ONE, chain_of(12)):
            self.assertEqual((loose(skin), handle_rings(skin), loops(skin)), ((), (), ()))

    def test_one_corner_alone(self):
        for skin in (ONE, ROW):
            self.assertEqual(corner_tree(skin), ())
            self.assertEqual(corner_way(skin, 0, 0), ())
            self.assertEqual(loops(skin), tuple((edge,) for edge in loose(skin)))

    def test_ways_from_corner_to_corner(self):
        for skin in list(small_skins()) + many_skins(44, 2):
            ends = slow_ends(skin)
            many = len(slow_corners(skin))
            for corner in range(many):
                for other in range(many):
                    way = corner_way(skin, corner, other)
                    self.assertEqual(way, tuple(sorted(set(way))))
                    self.assertLessEqual(set(way), set(corner_tree(skin)))
                    at_ends = [own for edge in way for own in ends[edge]]
                    odd = sorted(own for own in set(at_ends) if at_ends.count(own) % 2)
                    self.assertEqual(odd, sorted({corner, other}) if corner != other else [])
                    self.assertEqual(corner_way(skin, other, corner), way)


class JoinsTest(unittest.TestCase):
    def test_all_lots_of_small_ones(self):
        for skin in list(small_skins()) + [ROW]:
            edges = range(2 * len(skin))
            for many in range(len(edges) + 1):
                for lot in itertools.combinations(edges, many):
                    self.assertIs(joins_fields(skin, lot), slow_fields_hang_together(skin, lot))
                    self.assertIs(joins_corners(skin, lot), slow_corners_hang_together(skin, lot))

    def test_drawn_lots(self):
        rng = random.Random(45)
        for skin in many_skins(45, 4):
            for _ in range(6):
                lot = drawn_lot(rng, skin)
                self.assertIs(joins_fields(skin, lot), slow_fields_hang_together(skin, lot))
                self.assertIs(joins_corners(skin, lot), slow_corners_hang_together(skin, lot))

    def test_the_trees_join_and_less_of_them_does_not(self):
        for skin in many_skins(46):
            for tree, joins in ((field_tree, joins_fields), (corner_tree, joins_corners)):
                lot = tree(skin)
                self.assertIs(joins(skin, lot), True)
                for edge in lot:
                    self.assertIs(joins(skin, tuple(own for own in lot if own != edge)), False)

    def test_an_empty_lot(self):
        self.assertIs(joins_fields(ONE, ()), True)
        self.assertIs(joins_corners(ONE, ()), True)
        self.assertIs(joins_corners(ROW, ()), True)
        self.assertIs(joins_fields(ROW, ()), False)
        self.assertIs(joins_corners(BALL_OF_ONE, ()), False)


class HandleRingsTest(unittest.TestCase):
    def test_as_the_document_tells_them(self):
        for skin in list(small_skins()) + many_skins(47, 6):
            with self.subTest(skin=skin):
                self.assertEqual(handle_rings(skin), slow_handle_rings(skin))
                self.assertEqual(loops(skin), slow_loops(skin))

    def test_rings_are_simple_and_go_over_one_loose_edge(self):
        for skin in many_skins(48, 4):
            tree = field_tree(skin)
            for edge, ring in zip(loose(skin), handle_rings(skin)):
                self.assertIs(is_ring(skin, ring), True)
                self.assertIs(is_simple(skin, ring), True)
                told = [slow_edge_of(skin, own) for own in ring]
                self.assertEqual([own for own in told if own not in tree], [edge])
                # It goes over the loose edge from the side of the lesser crossing.
                self.assertEqual(ring[told.index(edge)], slow_edges(skin)[edge])

    def test_rings_begin_at_the_last_field_of_both_ways(self):
        for skin in many_skins(49, 4):
            for edge, ring in zip(loose(skin), handle_rings(skin)):
                fields = [
                    [0] + [slow_contrary(skin, own)[0] for own in way_to(skin, field)]
                    for field in slow_joined(skin, edge)
                ]
                shared = [one for one, other in zip(*fields) if one == other]
                self.assertEqual(ring[0][0], shared[-1])

    def test_loops_end_evenly_and_meet_their_own_ring_alone(self):
        for skin in many_skins(50, 4):
            rings, own_loops = handle_rings(skin), loops(skin)
            self.assertEqual(len(rings), 2 * slow_handles(skin))
            self.assertEqual(len(own_loops), len(rings))
            for at, (edge, loop) in enumerate(zip(loose(skin), own_loops)):
                self.assertIs(is_lot(skin, loop), True)
                self.assertIs(ends_evenly(skin, loop), True)
                self.assertEqual([own for own in loop if own not in corner_tree(skin)], [edge])
                for far, ring in enumerate(rings):
                    shared = {slow_edge_of(skin, own) for own in ring} & set(loop)
                    self.assertEqual(len(shared), 1 if at == far else 0)


class RefusalsTest(unittest.TestCase):
    def test_no_field(self):
        for skin in (ONE, TWIN, ring_of(12)):
            for bad in (len(skin), -1, -len(skin), 10 ** 6, 10 ** 30):
                self.assertEqual(raised(way_to, skin, bad), (NoField, {"field": bad}))
            self.assertEqual(len(way_to(skin, len(skin) - 1)), 0 if len(skin) == 1 else 1)

    def test_no_corner(self):
        for skin in (ONE, TWIN, PILLOW, ring_of(12)):
            many = len(slow_corners(skin))
            for bad in (many, -1, -many, 10 ** 6, 10 ** 30):
                self.assertEqual(raised(corner_way, skin, bad, 0), (NoCorner, {"corner": bad}))
                self.assertEqual(raised(corner_way, skin, 0, bad), (NoCorner, {"corner": bad}))
                self.assertEqual(raised(corner_way, skin, bad, bad + 50), (NoCorner, {"corner": bad}))
                self.assertEqual(raised(corner_way, skin, bad, None), (Unfit, {}))
                self.assertEqual(raised(corner_way, skin, None, bad), (Unfit, {}))
            self.assertEqual(corner_way(skin, many - 1, many - 1), ())

    def test_what_is_no_lot(self):
        for function in (joins_fields, joins_corners):
            for bad in (None, 0, "0", (4,), (-1,), (0, 0), (1, 0), (True,), [0, True], ((0,),), {0: 1}, [[0]], (0, "1")):
                self.assertEqual(raised(function, TWIN, bad), (Unfit, {}))
                self.assertEqual(raised(function, TWIN[:1], bad), (Unfit, {}))


if __name__ == "__main__":
    unittest.main()
