"""[3], [12]: what sticks out at the left of simple rings, and q of these."""

import random
import unittest

from handlepairs.arrows import good_arrows
from handlepairs.errors import CanNot, TooMany, Unfit
from handlepairs.rings import is_simple, ring_back
from handlepairs.sticks import left_sides, q_of_ring, simple_rings, sticking_out, sticks
from tests.drawn import BALL_OF_ONE, ONE, PILLOW, TWIN, drawn_skin, grid, odd_things, raised, ring_of, small_skins
from tests.shapes import (
    FOUR, JUST_ENOUGH, QUAD, TWO_MORE, chain_of, drawn_arrows, drawn_fields, drawn_pairing, drawn_simple_ring,
    many_skins, named_skins, skin_with_handles, skins_with_pairings,
)
from tests.slow import (
    slow_class_of_ring, slow_handles, slow_left_sides, slow_pairings, slow_q_of_ring, slow_simple_rings, slow_sticks,
    slow_turned_at,
)


def with_pairings(seed, each=2):
    rng = random.Random(seed)
    skins = [TWIN, PILLOW, QUAD, FOUR] + list(skins_with_pairings(rng, each=each))
    return skins + [grid(2, 6), grid(3, 4), chain_of(12), ring_of(10)]


class LeftSidesTest(unittest.TestCase):
    def test_of_drawn_rings(self):
        rng = random.Random(161)
        for skin in many_skins(161, 4):
            for _ in range(5):
                ring = drawn_simple_ring(rng, skin)
                told = left_sides(skin, ring)
                self.assertIsInstance(told, tuple)
                self.assertEqual(told, slow_left_sides(skin, ring))
                for sides in told:
                    self.assertIsInstance(sides, tuple)
                    self.assertLessEqual(len(sides), 2)

    def test_left_and_right_are_all_other_sides(self):
        rng = random.Random(162)
        for skin in many_skins(162):
            ring = drawn_simple_ring(rng, skin)
            back = ring_back(skin, ring)
            # Walked back, the fields come the other way round, and left is right.
            there = dict(zip([field for field, _ in ring], left_sides(skin, ring)))
            home = dict(zip([field for field, _ in back], left_sides(skin, back)))
            for field, side in ring:
                used = {side} | {own for place, own in back if place == field}
                self.assertEqual(sorted(there[field] + home[field] + tuple(used)), [0, 1, 2, 3])

    def test_all_ways_through_one_field(self):
        self.assertEqual([left_sides(ONE, ((0, side),)) for side in range(4)], [((1,),), ((2,),), ((3,),), ((0,),)])
        self.assertEqual(
            [left_sides(BALL_OF_ONE, ((0, side),)) for side in range(4)], [((),), ((2, 3),), ((),), ((0, 1),)]
        )


class SticksTest(unittest.TestCase):
    def test_of_drawn_rings(self):
        rng = random.Random(163)
        for skin in with_pairings(163):
            for _ in range(8):
                ring, pairing = drawn_simple_ring(rng, skin), drawn_pairing(rng, skin)
                wanted = slow_sticks(skin, ring, pairing)
                self.assertEqual(sticking_out(skin, ring, pairing), tuple(sorted(wanted)))
                self.assertEqual(sticks(skin, ring, pairing), len(wanted))

    def test_a_pair_on_the_ring_with_both_sides_at_its_left_counts_twice(self):
        found = 0
        for skin in (QUAD, FOUR, chain_of(4), PILLOW):
            for pairing in slow_pairings(skin):
                for ring in slow_simple_rings(skin):
                    told = sticking_out(skin, ring, pairing)
                    self.assertEqual(told, tuple(sorted(slow_sticks(skin, ring, pairing))))
                    self.assertEqual(sticks(skin, ring, pairing), len(told))
                    found += len(told) == len(skin) == len(ring)
        self.assertGreater(found, 0)

    def test_there_and_back_each_pair_off_the_ring_sticks_out_once(self):
        rng = random.Random(164)
        for skin in with_pairings(164, 1):
            ring, pairing = drawn_simple_ring(rng, skin), drawn_pairing(rng, skin)
            both = sticking_out(skin, ring, pairing), sticking_out(skin, ring_back(skin, ring), pairing)
            self.assertEqual(set(both[0]) & set(both[1]), set())
            self.assertLessEqual(set(both[0] + both[1]), {field for field, _ in ring})


class QTest(unittest.TestCase):
    def test_of_drawn_rings(self):
        rng = random.Random(165)
        for skin in with_pairings(165):
            for _ in range(6):
                ring, pairing, arrows = drawn_simple_ring(rng, skin), drawn_pairing(rng, skin), drawn_arrows(rng, skin)
                wanted = slow_q_of_ring(skin, arrows, pairing, ring)
                self.assertEqual(q_of_ring(skin, arrows, pairing, ring), wanted)
                turned = slow_turned_at(skin, arrows, drawn_fields(rng, skin))
                self.assertEqual(q_of_ring(skin, turned, pairing, ring), wanted)

    def test_gone_back_a_ring_has_the_same_q(self):
        rng = random.Random(166)
        for skin in with_pairings(166, 1):
            for _ in range(6):
                ring, pairing, arrows = drawn_simple_ring(rng, skin), drawn_pairing(rng, skin), drawn_arrows(rng, skin)
                told = q_of_ring(skin, arrows, pairing, ring)
                self.assertEqual(q_of_ring(skin, arrows, pairing, ring_back(skin, ring)), told)

    def test_by_good_arrows_rings_of_one_class_have_one_q(self):
        rng = random.Random(167)
        for skin in [own for own in with_pairings(167) if len(own) <= 6]:
            good, pairing = good_arrows(skin), drawn_pairing(rng, skin)
            told = {(0,) * (2 * slow_handles(skin)): 0}
            for ring in slow_simple_rings(skin):
                q = q_of_ring(skin, good, pairing, ring)
                self.assertEqual(told.setdefault(slow_class_of_ring(skin, ring), q), q)


class SimpleRingsTest(unittest.TestCase):
    def test_small_ones(self):
        for skin in small_skins():
            told = simple_rings(skin)
            self.assertIsInstance(told, list)
            self.assertEqual(told, slow_simple_rings(skin))

    def test_drawn_ones(self):
        rng = random.Random(168)
        skins = [drawn_skin(rng, many, crossings) for many in range(3, 7) for crossings in (0, 1, 3, 20)]
        for skin in skins + [own for own in named_skins() if len(own) <= 6]:
            self.assertEqual(simple_rings(skin), slow_simple_rings(skin))

    def test_each_is_told_once_from_its_least_crossing(self):
        rng = random.Random(169)
        for skin in [ring_of(12), chain_of(12), ring_of(9), drawn_skin(rng, 8), JUST_ENOUGH]:
            told = simple_rings(skin)
            self.assertEqual(told, sorted(set(told)))
            for ring in told:
                self.assertIs(is_simple(skin, ring), True)
                self.assertEqual(ring[0], min(ring))
            turned = {min(back[at:] + back[:at] for at in range(len(back))) for back in
                      (ring_back(skin, ring) for ring in told)}
            self.assertEqual(sorted(turned), told)

    def test_two_thousand_and_more(self):
        self.assertEqual(len(simple_rings(JUST_ENOUGH)), 2000)
        self.assertEqual(raised(simple_rings, TWO_MORE), (TooMany, {}))
        self.assertEqual(raised(simple_rings, grid(3, 4)), (TooMany, {}))

    def test_how_many(self):
        # Of a round of rolled up fields: two over each by itself, and two round all.
        for many in range(3, 13):
            self.assertEqual(len(simple_rings(ring_of(many))), 2 * many + 2)
        # Of a row: two over each end by itself, two over each two beside one another.
        for many in range(2, 13):
            self.assertEqual(len(simple_rings(chain_of(many))), 2 * 2 + 2 * (many - 1))
        self.assertEqual(len(simple_rings(ONE)), 4)


class RefusalsTest(unittest.TestCase):
    def test_no_simple_ring(self):
        for ring in (((0, 0), (1, 2)), ((0, 1), (0, 1)), ((0, 1), (0, 0), (1, 0)), ((0, 0), (1, 1), (1, 0))):
            self.assertEqual(raised(left_sides, TWIN, ring), (CanNot, {}))
            for function in (sticking_out, sticks):
                self.assertEqual(raised(function, TWIN, ring, (0,)), (CanNot, {}))
                self.assertEqual(raised(function, TWIN, ring, (1,)), (Unfit, {}))
            self.assertEqual(raised(q_of_ring, TWIN, (0, 0, 0, 0), (0,), ring), (CanNot, {}))
            self.assertEqual(raised(q_of_ring, TWIN, (0, 0, 0), (0,), ring), (Unfit, {}))
            self.assertEqual(raised(q_of_ring, TWIN, (0, 0, 0, 0), (), ring), (Unfit, {}))

    def test_no_ring(self):
        for bad in odd_things() + [(), ((0, 0),), ((0, 4),), ((2, 0),), ((0, True),), (0, 1), "01", [[0, 1], [1, 1]]]:
            self.assertEqual(raised(left_sides, TWIN, bad), (Unfit, {}))
            self.assertEqual(raised(left_sides, TWIN[:1], bad), (Unfit, {}))
            for function in (sticking_out, sticks):
                self.assertEqual(raised(function, TWIN, bad, (0,)), (Unfit, {}))
            self.assertEqual(raised(q_of_ring, TWIN, (0, 0, 0, 0), (0,), bad), (Unfit, {}))

    def test_no_pairing(self):
        ring = ((0, 1),)
        for bad in odd_things() + [(1,), (4,), (-1,), (0, 2), (False,), [[0]], {0: 0}, (0, 0), ("0",)]:
            for function in (sticking_out, sticks):
                self.assertEqual(raised(function, TWIN, ring, bad), (Unfit, {}))
                self.assertEqual(raised(function, ONE, ring, bad), (Unfit, {}))
            self.assertEqual(raised(q_of_ring, TWIN, (0, 0, 0, 0), bad, ring), (Unfit, {}))

    def test_no_arrows(self):
        for bad in odd_things() + [(0, 0, 0), (0, 0, 0, 2), (0, 0, 0, True), "0000", [0, 0, 0, [0]]]:
            self.assertEqual(raised(q_of_ring, TWIN, bad, (0,), ((0, 1),)), (Unfit, {}))

    def test_no_skin(self):
        for bad in (None, 0, (), "skin", TWIN[:1], ring_of(12)[:11], (((0, 0),) * 4,)):
            self.assertEqual(raised(simple_rings, bad), (Unfit, {}))
            self.assertEqual(raised(left_sides, bad, ((0, 1),)), (Unfit, {}))

    def test_many_handles_are_none_too_many(self):
        rng = random.Random(170)
        for handles in (3, 4):
            skin = skin_with_handles(rng, 8, handles)
            ring = drawn_simple_ring(rng, skin)
            self.assertEqual(left_sides(skin, ring), slow_left_sides(skin, ring))
            if slow_pairings(skin):
                pairing = slow_pairings(skin)[0]
                arrows = (0,) * 16
                self.assertEqual(q_of_ring(skin, arrows, pairing, ring), slow_q_of_ring(skin, arrows, pairing, ring))


if __name__ == "__main__":
    unittest.main()
