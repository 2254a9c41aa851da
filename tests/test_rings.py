"""[3], [8]: rings, simple ones, classes."""

import itertools
import random
import unittest

from handlepairs.errors import CanNot, NoCorner, TooMany, Unfit
from handlepairs.rings import (
    class_of_lot, class_of_ring, classes, corners_within, fields_of, is_class, is_ring, is_ring_of, is_simple,
    lot_of_ring, put_together, ring_back, ring_from, ring_of_class, ring_round,
)
from handlepairs.trees import handle_rings
from tests.drawn import BALL_OF_ONE, ONE, PILLOW, TWIN, odd_things, raised, ring_of, small_skins
from tests.shapes import (
    ROW, SIX, THREE, TWINS, chain_of, drawn_class, drawn_lot, drawn_ring, drawn_simple_ring, many_skins,
    skin_with_handles,
)
from tests.slow import (
    all_bits, slow_class_of_lot, slow_class_of_ring, slow_contrary, slow_corners, slow_handles, slow_is_ring,
    slow_is_simple, slow_lot_of_ring, slow_ring_round,
)


def some_rings(rng, skin, many):
    return [drawn_ring(rng, skin) for _ in range(many)]


def round_lot(skin, corners):
    """The LOT over which the RINGS round these CORNERS go an odd number of times, all counted."""
    return slow_lot_of_ring(skin, tuple(itertools.chain.from_iterable(slow_ring_round(skin, own) for own in corners)))


class IsRingTest(unittest.TestCase):
    def test_all_short_tuples(self):
        for skin in (ONE, BALL_OF_ONE, TWIN, PILLOW):
            crossings = [(field, side) for field in range(len(skin)) for side in range(4)]
            found = 0
            for many in range(4):
                for thing in itertools.product(crossings, repeat=many):
                    self.assertIs(is_ring(skin, thing), slow_is_ring(skin, thing))
                    found += is_ring(skin, thing)
            self.assertGreater(found, 0)

    def test_drawn_ones_and_broken_ones(self):
        rng = random.Random(61)
        for skin in many_skins(61):
            for ring in some_rings(rng, skin, 5):
                self.assertIs(is_ring(skin, ring), True)
                for thing in (ring[:-1], ring[1:], ring + ring[-1:], ring[::-1], ring + ring):
                    self.assertIs(is_ring(skin, thing), slow_is_ring(skin, thing))
                for bad in ((len(skin), 0), (-1, 0), (0, 4), (0, -1), (0, True), (False, 0), [0, 0], (0,), (0, 0, 0), 0):
                    at = rng.randrange(len(ring))
                    self.assertIs(is_ring(skin, ring[:at] + (bad,) + ring[at + 1:]), False)

    def test_over_an_edge_and_at_once_back(self):
        self.assertIs(is_ring(TWIN, ((0, 0), (1, 2))), True)
        self.assertIs(is_ring(ONE, ((0, 0), (0, 2))), True)
        self.assertIs(is_ring(ONE, ((0, 0),) * 1000), True)

    def test_whatever_else(self):
        for thing in odd_things() + [
            [(0, 1)], ([0, 1],), (0, 1), ((0, 1), ()), ((0, 1), None), (((0, 1),),), ((True, 1),), ((0, True),),
            ((0, 1, 1),), ((0, "1"),), ("01",), ((0, 1),) * 4 + ([0, 1],),
        ]:
            self.assertIs(is_ring(TWIN, thing), False)
        self.assertIs(is_ring(TWIN, ((0, 1),) * 5000), True)

    def test_no_skin_whatever_the_thing(self):
        for thing in odd_things() + [((0, 1),)]:
            self.assertEqual(raised(is_ring, TWIN[:1], thing), (Unfit, {}))


class IsSimpleTest(unittest.TestCase):
    def test_all_short_rings(self):
        for skin in (ONE, BALL_OF_ONE, TWIN, PILLOW, ROW):
            crossings = [(field, side) for field in range(len(skin)) for side in range(4)]
            for many in range(1, 4):
                for ring in itertools.product(crossings, repeat=many):
                    if slow_is_ring(skin, ring):
                        self.assertIs(is_simple(skin, ring), slow_is_simple(skin, ring))

    def test_drawn_ones(self):
        rng = random.Random(62)
        for skin in many_skins(62):
            for ring in some_rings(rng, skin, 5):
                self.assertIs(is_simple(skin, ring), slow_is_simple(skin, ring))
            self.assertIs(is_simple(skin, drawn_simple_ring(rng, skin)), True)

    def test_over_one_edge_there_and_back(self):
        self.assertIs(is_simple(TWIN, ((0, 0), (1, 2))), False)
        self.assertIs(is_simple(TWIN, ((0, 0), (1, 0))), True)

    def test_over_one_field_twice(self):
        self.assertIs(is_simple(ONE, ((0, 0), (0, 1))), False)
        self.assertIs(is_simple(ONE, ((0, 0), (0, 0))), False)
        self.assertIs(is_simple(ONE, ((0, 3),)), True)


class OneRingTest(unittest.TestCase):
    def test_fields_lots_and_classes(self):
        rng = random.Random(63)
        for skin in many_skins(63, 4):
            for ring in some_rings(rng, skin, 5):
                self.assertEqual(fields_of(skin, ring), tuple(field for field, _ in ring))
                self.assertEqual(lot_of_ring(skin, ring), slow_lot_of_ring(skin, ring))
                self.assertEqual(class_of_ring(skin, ring), slow_class_of_ring(skin, ring))

    def test_an_edge_gone_over_twice_is_not_of_the_lot(self):
        self.assertEqual(lot_of_ring(TWIN, ((0, 0), (1, 2))), ())
        self.assertEqual(lot_of_ring(TWIN, ((0, 1), (0, 1))), ())
        self.assertEqual(lot_of_ring(TWIN, ((0, 1), (0, 1), (0, 1))), (1,))
        self.assertEqual(class_of_ring(ONE, ((0, 0),) * 3), (1, 0))

    def test_at_each_field_evenly_many_sides_are_of_a_lot(self):
        rng = random.Random(64)
        for skin in many_skins(64):
            for ring in some_rings(rng, skin, 3):
                lot = lot_of_ring(skin, ring)
                for field in range(len(skin)):
                    told = [slow_lot_of_ring(skin, ((field, side),))[0] in lot for side in range(4)]
                    self.assertEqual(sum(told) % 2, 0)

    def test_walked_back(self):
        rng = random.Random(65)
        for skin in many_skins(65):
            for ring in some_rings(rng, skin, 3):
                back = ring_back(skin, ring)
                self.assertEqual(back, tuple(slow_contrary(skin, own) for own in reversed(ring)))
                self.assertIs(is_ring(skin, back), True)
                self.assertEqual(ring_back(skin, back), ring)
                self.assertEqual(class_of_ring(skin, back), class_of_ring(skin, ring))

    def test_begun_at_another_crossing(self):
        rng = random.Random(66)
        for skin in many_skins(66):
            for ring in some_rings(rng, skin, 3) + [drawn_ring(rng, skin) * 2]:
                turned = [ring[at:] + ring[:at] for at in range(len(ring))]
                self.assertEqual(ring_from(skin, ring), sorted(turned)[0])
                for own in turned:
                    self.assertEqual(ring_from(skin, own), min(turned))
                    self.assertEqual(class_of_ring(skin, own), class_of_ring(skin, ring))
        # The least tuple is not always the one from the first least crossing on.
        self.assertEqual(ring_from(ONE, ((0, 0), (0, 1), (0, 0), (0, 0))), ((0, 0), (0, 0), (0, 0), (0, 1)))

    def test_round_a_corner(self):
        for skin in list(small_skins()) + many_skins(67):
            for corner, pairs in enumerate(slow_corners(skin)):
                ring = ring_round(skin, corner)
                self.assertEqual(ring, slow_ring_round(skin, corner))
                self.assertEqual({(field, (side + 1) % 4) for field, side in ring}, set(pairs))
                self.assertIs(is_ring(skin, ring), True)
                self.assertEqual(class_of_ring(skin, ring), (0,) * (2 * slow_handles(skin)))


class ClassesTest(unittest.TestCase):
    def test_of_lots(self):
        rng = random.Random(68)
        for skin in many_skins(68, 4):
            for _ in range(4):
                lot = drawn_lot(rng, skin)
                self.assertEqual(class_of_lot(skin, lot), slow_class_of_lot(skin, lot))
            self.assertEqual(class_of_lot(skin, ()), (0,) * (2 * slow_handles(skin)))

    def test_of_handle_rings(self):
        for skin in many_skins(69, 4):
            many = 2 * slow_handles(skin)
            for at, ring in enumerate(handle_rings(skin)):
                self.assertEqual(class_of_ring(skin, ring), tuple(int(own == at) for own in range(many)))

    def test_one_ring_behind_the_other(self):
        rng = random.Random(70)
        for skin in many_skins(70):
            one = drawn_ring(rng, skin)
            other = drawn_ring(rng, skin)
            while other[0][0] != one[0][0]:
                other = drawn_ring(rng, skin)
            both = put_together(skin, class_of_ring(skin, one), class_of_ring(skin, other))
            self.assertEqual(class_of_ring(skin, one + other), both)

    def test_put_together(self):
        rng = random.Random(71)
        for skin in many_skins(71):
            one, other = drawn_class(rng, skin), drawn_class(rng, skin)
            wanted = tuple((left + right) % 2 for left, right in zip(one, other))
            self.assertEqual(put_together(skin, one, other), wanted)
            self.assertEqual(put_together(skin, one, one), (0,) * len(one))
        self.assertEqual(put_together(PILLOW, (), ()), ())

    def test_is_class(self):
        rng = random.Random(72)
        for skin in many_skins(72):
            one = drawn_class(rng, skin)
            self.assertIs(is_class(skin, one), True)
            for thing in (one + (0,), one + (0, 1), list(one), (one,), one[:-1] if one else (1,)):
                self.assertIs(is_class(skin, thing), False)
            for at in range(len(one)):
                for bad in (2, -1, True, False, None, "0", (0,), [1], 10 ** 30):
                    self.assertIs(is_class(skin, one[:at] + (bad,) + one[at + 1:]), False)

    def test_no_class_whatever_else(self):
        for thing in odd_things():
            self.assertIs(is_class(TWIN, thing), False)
            self.assertIs(is_class(PILLOW, thing), isinstance(thing, tuple) and thing == ())
            self.assertEqual(raised(is_class, TWIN[:1], thing), (Unfit, {}))

    def test_all_of_them(self):
        rng = random.Random(73)
        for many, handles in ((1, 0), (1, 1), (3, 2), (5, 3), (6, 3), (12, 3), (12, 0)):
            skin = skin_with_handles(rng, many, handles)
            told = classes(skin)
            self.assertIsInstance(told, list)
            self.assertEqual(told, all_bits(2 * handles))
            self.assertTrue(all(is_class(skin, one) for one in told))
        self.assertEqual(classes(chain_of(3)), [()])

    def test_too_many_handles(self):
        rng = random.Random(74)
        for many, handles in ((7, 4), (8, 4), (12, 4), (12, 5), (12, 6)):
            skin = skin_with_handles(rng, many, handles)
            self.assertEqual(raised(classes, skin), (TooMany, {}))
            # The others go on with as many handles as there are.
            one = drawn_class(rng, skin)
            self.assertIs(is_class(skin, one), True)
            self.assertIs(is_ring_of(skin, one, ring_of_class(skin, one)), True)


class RingOfClassTest(unittest.TestCase):
    def test_for_each_class(self):
        for skin in many_skins(75):
            if slow_handles(skin) <= 3:
                for one in all_bits(2 * slow_handles(skin)):
                    self.check_ring(skin, one)

    def test_for_drawn_classes_of_many_handles(self):
        rng = random.Random(76)
        for handles in (4, 5, 6):
            skin = skin_with_handles(rng, 12, handles)
            for _ in range(10):
                self.check_ring(skin, drawn_class(rng, skin))

    def check_ring(self, skin, one):
        ring = ring_of_class(skin, one)
        self.assertIsInstance(ring, tuple)
        self.assertIs(slow_is_ring(skin, ring), True)
        self.assertEqual(ring[0][0], 0)
        self.assertEqual(slow_class_of_ring(skin, ring), one)
        self.assertIs(is_ring_of(skin, one, ring), True)
        self.assertEqual(ring_of_class(skin, list(one)), ring)

    def test_is_ring_of_begun_anywhere(self):
        rng = random.Random(77)
        for skin in many_skins(77):
            for ring in some_rings(rng, skin, 3):
                one = slow_class_of_ring(skin, ring)
                for at in range(len(ring)):
                    self.assertIs(is_ring_of(skin, one, ring[at:] + ring[:at]), True)
                other = drawn_class(rng, skin)
                self.assertIs(is_ring_of(skin, other, ring), other == one)
                self.assertIs(is_ring_of(skin, one, list(ring)), False)
                self.assertIs(is_ring_of(skin, one, ring + ((0, 4),)), False)

    def test_is_ring_of_whatever_else(self):
        for thing in odd_things():
            self.assertIs(is_ring_of(PILLOW, (), thing), False)
            self.assertIs(is_ring_of(TWIN, (0, 0), thing), False)
            self.assertEqual(raised(is_ring_of, TWIN, (0,), thing), (Unfit, {}))
            self.assertEqual(raised(is_ring_of, TWIN[:1], (0, 0), thing), (Unfit, {}))


class CornersWithinTest(unittest.TestCase):
    def test_all_sets_of_corners(self):
        for skin in list(small_skins()) + [ROW, THREE, TWINS, SIX]:
            many = len(slow_corners(skin))
            lots = set()
            for size in range(many):
                for corners in itertools.combinations(range(1, many), size):
                    lot = round_lot(skin, corners)
                    self.assertEqual(corners_within(skin, lot), corners)
                    lots.add(lot)
            # With number 0 in the set, the others of it are told the other way round.
            self.assertEqual(len(lots), 2 ** (many - 1))
            self.assertIn(round_lot(skin, range(many)), lots)

    def test_drawn_lots(self):
        rng = random.Random(78)
        for skin in many_skins(78, 4):
            many = len(slow_corners(skin))
            corners = tuple(corner for corner in range(1, many) if rng.randrange(2))
            lot = round_lot(skin, corners)
            self.assertEqual(corners_within(skin, lot), corners)
            if many <= 8:
                edge = rng.randrange(2 * len(skin))
                self.check_by_all_sets(skin, tuple(sorted(set(lot) ^ {edge})))
                self.check_by_all_sets(skin, drawn_lot(rng, skin))

    def check_by_all_sets(self, skin, lot):
        many = len(slow_corners(skin))
        found = [
            own for size in range(many) for own in itertools.combinations(range(1, many), size)
            if round_lot(skin, own) == lot
        ]
        if found:
            self.assertEqual([corners_within(skin, lot)], found)
        else:
            self.assertEqual(raised(corners_within, skin, lot), (CanNot, {}))

    def test_lots_of_rings(self):
        rng = random.Random(79)
        for skin in many_skins(79):
            for ring in some_rings(rng, skin, 3):
                lot = slow_lot_of_ring(skin, ring)
                if 1 in slow_class_of_ring(skin, ring):
                    self.assertEqual(raised(corners_within, skin, lot), (CanNot, {}))
                else:
                    found = corners_within(skin, lot)
                    self.assertNotIn(0, found)
                    self.assertEqual(found, tuple(sorted(set(found))))
                    self.assertEqual(round_lot(skin, found), lot)

    def test_there_is_none(self):
        self.assertEqual(raised(corners_within, ONE, (0,)), (CanNot, {}))
        self.assertEqual(raised(corners_within, ONE, (0, 1)), (CanNot, {}))
        self.assertEqual(raised(corners_within, PILLOW, (0,)), (CanNot, {}))
        self.assertEqual(corners_within(PILLOW, ()), ())


class RefusalsTest(unittest.TestCase):
    def test_no_corner(self):
        for skin in (ONE, TWIN, PILLOW, ring_of(12)):
            many = len(slow_corners(skin))
            for bad in (many, -1, -many, 10 ** 6, 10 ** 30):
                self.assertEqual(raised(ring_round, skin, bad), (NoCorner, {"corner": bad}))
            for bad in (None, True, False, "0", (0,), 1.0):
                self.assertEqual(raised(ring_round, skin, bad), (Unfit, {}))

    def test_what_is_no_ring(self):
        for function in (is_simple, fields_of, ring_back, ring_from, lot_of_ring, class_of_ring):
            for bad in odd_things() + [
                (), [], ((0, 0),), ((0, 4),), ((2, 0),), ((-1, 0),), ((0, -1),), ((0, True),), ((False, 1),), (0, 1), ((0, 1, 0),),
                [[0, 1], [0, 1], [1, 0]], ((0, 0), (1, 1), (0, 0)), {0: 1}, 1.5,
            ]:
                self.assertEqual(raised(function, TWIN, bad), (Unfit, {}))
                self.assertEqual(raised(function, TWIN[:1], bad), (Unfit, {}))

    def test_what_is_no_class(self):
        for bad in (None, 0, "00", (), (0,), (0, 0, 0), (0, 2), (0, -1), (0, True), (False, 0), (0, None), [0, [1]], {0: 1, 1: 0}):
            self.assertEqual(raised(ring_of_class, TWIN, bad), (Unfit, {}))
            for good in ((0, 1), [1, 1]):
                self.assertEqual(raised(put_together, TWIN, bad, good), (Unfit, {}))
                self.assertEqual(raised(put_together, TWIN, good, bad), (Unfit, {}))
                self.assertEqual(raised(put_together, TWIN[:1], good, bad), (Unfit, {}))

    def test_what_is_no_lot_ahead_of_what_cannot_be(self):
        for function in (class_of_lot, corners_within):
            for bad in (None, 0, "0", (4,), (-1,), (0, 0), (1, 0), (True,), ((0,),), {0: 1}, (0, "1")):
                self.assertEqual(raised(function, TWIN, bad), (Unfit, {}))
                self.assertEqual(raised(function, TWIN[:1], bad), (Unfit, {}))


if __name__ == "__main__":
    unittest.main()
