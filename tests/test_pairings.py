"""[3], [15]: pairings, lacks, rings by which pairings part."""

import itertools
import random
import unittest

from handlepairs.errors import CanNot, TooMany, Unfit, Unpaired
from handlepairs.pairings import (
    all_pairings, class_between, is_lack, is_pairing, lack, moved_along, odd_parts, parted, some_pairing,
)
from handlepairs.rings import is_ring, is_simple, put_together
from tests.drawn import (
    BALL_OF_ONE, ONE, PILLOW, TWIN, drawn_skin, drawn_skins, grid, odd_things, raised, ring_of, small_skins,
)
from tests.shapes import (
    FOUR, QUAD, SIX, chain_of, drawn_fields, drawn_pairing, drawn_ring, lacking, named_skins, skins_with_pairings,
)
from tests.slow import (
    slow_class_of_lot, slow_class_of_ring, slow_contrary, slow_edge_of, slow_handles, slow_odd_parts, slow_pairings,
)

# Evenly many fields, up to twelve, and no pairing.
LACKING = [lacking(own) for own in ((1, 1, 1, 1), (3, 1, 1, 1), (1, 3, 3, 1), (3, 1, 3, 3))]


def many_skins(seed, each=2):
    return named_skins() + LACKING + list(drawn_skins(seed, each))


def two_pairings(seed, each=3):
    """(skin, pairing, other), drawn."""
    rng = random.Random(seed)
    for skin in [TWIN, PILLOW, QUAD, FOUR] + list(skins_with_pairings(rng, each=2)) + [grid(2, 6), grid(3, 4), chain_of(12)]:
        for _ in range(each):
            yield skin, drawn_pairing(rng, skin), drawn_pairing(rng, skin)


def edges_of(skin, rings):
    return sorted(slow_edge_of(skin, own) for ring in rings for own in ring)


class IsPairingTest(unittest.TestCase):
    def test_all_lots_of_small_ones(self):
        for skin in list(small_skins()) + [QUAD, FOUR]:
            wanted = slow_pairings(skin)
            for many in range(4):
                for lot in itertools.combinations(range(2 * len(skin)), many):
                    self.assertIs(is_pairing(skin, lot), lot in wanted)

    def test_not_ascending_or_twice(self):
        for lot in slow_pairings(QUAD):
            self.assertIs(is_pairing(QUAD, lot), True)
            for thing in (lot[::-1], lot + lot, lot[:1], lot + lot[-1:], list(lot), (lot,), lot + (8,), (-1,) + lot):
                self.assertIs(is_pairing(QUAD, thing), False)

    def test_whatever_else(self):
        for thing in odd_things() + [[0], (True,), (False,), (0.0,), ("0",), ((0,),), 0, (4,), (-4,), (0, 3), (3, 0)]:
            for skin in (TWIN, PILLOW, ONE):
                self.assertIs(is_pairing(skin, thing), False)
            self.assertEqual(raised(is_pairing, TWIN[:1], thing), (Unfit, {}))

    def test_an_edge_from_a_field_to_itself(self):
        for edge in range(4):
            self.assertIs(is_pairing(PILLOW, (edge,)), True)
            self.assertIs(is_pairing(TWIN, (edge,)), edge in (0, 2))

    def test_of_many_fields(self):
        rng = random.Random(141)
        for skin in (grid(3, 4), grid(2, 6), chain_of(12), ring_of(12), ring_of(10)):
            self.assertIs(is_pairing(skin, drawn_pairing(rng, skin)), True)


class AllPairingsTest(unittest.TestCase):
    def test_small_ones(self):
        for skin in small_skins():
            told = all_pairings(skin)
            self.assertIsInstance(told, list)
            self.assertEqual(told, slow_pairings(skin))

    def test_drawn_ones(self):
        for skin in many_skins(142, 6):
            if len(skin) <= 8:
                self.assertEqual(all_pairings(skin), slow_pairings(skin))
                self.assertLessEqual(len(all_pairings(skin)), 4 ** (len(skin) // 2))
        for skin in skins_with_pairings(random.Random(143)):
            self.assertEqual(all_pairings(skin), slow_pairings(skin))

    def test_more_than_8_fields(self):
        rng = random.Random(144)
        for many in (9, 10, 11, 12):
            for skin in (drawn_skin(rng, many), ring_of(many)):
                self.assertEqual(raised(all_pairings, skin), (TooMany, {}))
        for many in (7, 8):
            self.assertEqual(len(all_pairings(ring_of(many))), 0 if many == 7 else 2)


class SomePairingTest(unittest.TestCase):
    def test_one_or_none(self):
        found = 0
        for skin in list(small_skins()) + many_skins(145, 6):
            if slow_pairings(skin):
                found += 1
                told = some_pairing(skin)
                self.assertIn(told, slow_pairings(skin))
                self.assertEqual(some_pairing([list(row) for row in skin]), told)
            else:
                self.assertEqual(raised(some_pairing, skin), (Unpaired, {}))
        self.assertGreater(found, 10)

    def test_evenly_many_fields_without_one(self):
        for skin in [SIX] + LACKING:
            self.assertEqual(raised(some_pairing, skin), (Unpaired, {}))
            if len(skin) <= 8:
                self.assertEqual(all_pairings(skin), [])

    def test_oddly_many_fields(self):
        for skin in (ONE, BALL_OF_ONE, ring_of(3), ring_of(11), chain_of(7)):
            self.assertEqual(raised(some_pairing, skin), (Unpaired, {}))


class LackTest(unittest.TestCase):
    def test_odd_parts(self):
        rng = random.Random(146)
        for skin in list(small_skins()) + many_skins(146, 4):
            for fields in [drawn_fields(rng, skin) for _ in range(4)] + [(), tuple(range(len(skin)))]:
                told = odd_parts(skin, fields)
                self.assertIsInstance(told, tuple)
                self.assertEqual(told, slow_odd_parts(skin, fields))

    def test_all_sets_of_fields(self):
        for skin in [own for own in many_skins(147, 1) if len(own) <= 7] + LACKING[:1]:
            fields = range(len(skin))
            found = 0
            for many in range(len(skin) + 1):
                for own in itertools.combinations(fields, many):
                    wanted = len(slow_odd_parts(skin, own)) > len(own)
                    self.assertIs(is_lack(skin, own), wanted)
                    found += wanted
            self.assertEqual(found > 0, slow_pairings(skin) == [])

    def test_there_is_one_exactly_if_there_is_no_pairing(self):
        for skin in list(small_skins()) + many_skins(148, 6):
            if slow_pairings(skin):
                self.assertEqual(raised(lack, skin), (CanNot, {}))
                self.assertIs(is_lack(skin, ()), False)
            else:
                told = lack(skin)
                self.assertIsInstance(told, tuple)
                self.assertGreater(len(slow_odd_parts(skin, told)), len(told))
                self.assertIs(is_lack(skin, told), True)
                self.assertIs(is_lack(skin, list(told)), False)
            if len(skin) % 2:
                self.assertIs(is_lack(skin, ()), True)

    def test_is_lack_whatever_else(self):
        for skin in LACKING + [SIX, ring_of(3)]:
            for thing in [own for own in odd_things() if own != ()] + [
                [4, 5], (5, 4), (4, 4, 5), (4, 5, 6), (-1, 4, 5), (True,), (False,), ("4", "5"), ((4,), (5,)), 4, (4.0, 5.0),
                (4, 5, 12), tuple(range(5000)),
            ]:
                self.assertIs(is_lack(skin, thing), False)
        for thing in odd_things() + [(4, 5)]:
            self.assertEqual(raised(is_lack, SIX[:1], thing), (Unfit, {}))

    def test_what_is_no_set_of_fields(self):
        for skin in (TWIN, PILLOW, ring_of(12)):
            for bad in (
                None, 0, "0", (1, 0), (0, 0), (-1,), (len(skin),), (True,), (0, True), ((0,),), {0: 1}, (0, "1"), [[0]],
            ):
                self.assertEqual(raised(odd_parts, skin, bad), (Unfit, {}))
                self.assertEqual(raised(odd_parts, skin[:-1] + ((),), bad), (Unfit, {}))


class PartedTest(unittest.TestCase):
    def test_rings_over_edges_of_one_and_the_other(self):
        for skin, pairing, other in two_pairings(149):
            told = parted(skin, pairing, other)
            self.assertIsInstance(told, tuple)
            self.assertEqual(told, tuple(sorted(set(told))))
            self.assertEqual(edges_of(skin, told), sorted(set(pairing) ^ set(other)))
            fields = [field for ring in told for field, _ in ring]
            self.assertEqual(len(set(fields)), len(fields))
            for ring in told:
                self.assertIs(is_simple(skin, ring), True)
                self.assertEqual(len(ring) % 2, 0)
                of_pairing = [slow_edge_of(skin, own) in pairing for own in ring]
                self.assertEqual(of_pairing, [of_pairing[0], not of_pairing[0]] * (len(ring) // 2))

    def test_each_is_told_from_its_least_crossing(self):
        for skin, pairing, other in two_pairings(150):
            for ring in parted(skin, pairing, other):
                both = list(ring) + [slow_contrary(skin, own) for own in ring]
                self.assertEqual(ring[0], min(both))

    def test_the_other_way_round_and_the_same_one(self):
        for skin, pairing, other in two_pairings(151, 1):
            self.assertEqual(parted(skin, other, pairing), parted(skin, pairing, other))
            self.assertEqual(parted(skin, pairing, pairing), ())
            self.assertEqual(class_between(skin, pairing, pairing), (0,) * (2 * slow_handles(skin)))

    def test_class_between(self):
        for skin, pairing, other in two_pairings(152):
            told = class_between(skin, pairing, other)
            self.assertEqual(told, slow_class_of_lot(skin, set(pairing) ^ set(other)))
            self.assertEqual(class_between(skin, other, pairing), told)
            total = (0,) * len(told)
            for ring in parted(skin, pairing, other):
                total = put_together(skin, total, slow_class_of_ring(skin, ring))
            self.assertEqual(total, told)

    def test_moved_along_all_of_them(self):
        for skin, pairing, other in two_pairings(153):
            told = pairing
            for ring in parted(skin, pairing, other):
                told = moved_along(skin, told, ring)
                self.assertIn(told, slow_pairings(skin))
            self.assertEqual(told, other)


class MovedTest(unittest.TestCase):
    def test_along_whatever_ring(self):
        rng = random.Random(154)
        moved, refused = 0, 0
        for skin, pairing, _ in two_pairings(154, 10):
            ring = drawn_ring(rng, skin)
            wanted = tuple(sorted(set(pairing) ^ {slow_edge_of(skin, own) for own in ring}))
            if wanted in slow_pairings(skin):
                moved += 1
                self.assertEqual(moved_along(skin, pairing, ring), wanted)
            else:
                refused += 1
                self.assertEqual(raised(moved_along, skin, pairing, ring), (CanNot, {}))
        self.assertGreater(moved, 3)
        self.assertGreater(refused, 50)

    def test_an_edge_gone_over_twice_counts_once(self):
        ring = ((0, 0), (1, 0))
        for own in (ring, ring + ring, ring * 3, ((0, 0), (1, 2), (0, 2), (1, 0))):
            self.assertIs(is_ring(TWIN, own), True)
            self.assertEqual(moved_along(TWIN, (0,), own), (2,))
            self.assertEqual(moved_along(TWIN, (2,), own), (0,))

    def test_no_pairing_comes(self):
        self.assertEqual(raised(moved_along, TWIN, (0,), ((0, 0), (1, 2))), (CanNot, {}))
        self.assertEqual(raised(moved_along, TWIN, (0,), ((0, 2), (1, 2), (0, 1))), (CanNot, {}))
        self.assertEqual(raised(moved_along, PILLOW, (0,), ((0, 1), (1, 2))), (CanNot, {}))


class RefusalsTest(unittest.TestCase):
    def test_what_is_no_pairing(self):
        for bad in odd_things() + [(1,), (3,), (4,), (-1,), (0, 2), (0, 1), (True,), (False,), [[0]], {0: 0}, (0, 0), ("0",)]:
            for good in ((0,), [2]):
                for function in (parted, class_between):
                    self.assertEqual(raised(function, TWIN, bad, good), (Unfit, {}))
                    self.assertEqual(raised(function, TWIN, good, bad), (Unfit, {}))
                    self.assertEqual(raised(function, TWIN[:1], good, good), (Unfit, {}))
            self.assertEqual(raised(moved_along, TWIN, bad, ((0, 0), (1, 0))), (Unfit, {}))

    def test_no_skin_without_a_pairing_has_one(self):
        for skin in [ONE, BALL_OF_ONE, SIX, ring_of(3)] + LACKING:
            for bad in ((), (0,), (0, 1, 2)):
                self.assertEqual(raised(class_between, skin, bad, bad), (Unfit, {}))
                self.assertEqual(raised(parted, skin, bad, bad), (Unfit, {}))

    def test_no_ring_ahead_of_what_cannot_be(self):
        for bad in odd_things() + [(), ((0, 0),), ((0, 4),), ((0, True),), (0, 1), "01", [[0, 1], [1, 1]]]:
            self.assertEqual(raised(moved_along, TWIN, (0,), bad), (Unfit, {}))

    def test_no_skin(self):
        for bad in (None, 0, (), "skin", TWIN[:1], ring_of(12)[:11], (((0, 0),) * 4,)):
            for function in (all_pairings, some_pairing, lack):
                self.assertEqual(raised(function, bad), (Unfit, {}))


if __name__ == "__main__":
    unittest.main()
