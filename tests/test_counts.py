"""[3], [17]: the worths of all pairings added up, by parts."""

import random
import unittest

from handlepairs.arrows import good_at, many_good
from handlepairs.counts import how_many, part_of, parts, sum_of, sum_with, sum_without, ways_of
from handlepairs.errors import NoEdge, TooMany, Unfit
from handlepairs.kinds import all_kinds, arrows_of, kind_of
from handlepairs.marks import mark, mark_by_pairs
from handlepairs.tables import paired_sum, sign_of, signed_table
from tests.drawn import BALL_OF_ONE, ONE, PAIR, PILLOW, TWIN, grid, odd_things, raised, ring_of, small_skins
from tests.shapes import (
    FOUR, QUAD, SIX, THREE, chain_of, drawn_lot, drawn_pairing, drawn_worths, lacking, many_skins, skin_with_handles,
    skin_with_pairing, with_pairings,
)
from tests.slow import all_bits, slow_handles, slow_joined, slow_pairings
from tests.slow_sums import slow_part, slow_sum

UNPAIRED = [ONE, BALL_OF_ONE, PAIR, THREE, ring_of(3), ring_of(11), chain_of(9), SIX, lacking((1, 1, 1, 1)), lacking((3, 3, 3, 1))]


def few_handles(skins):
    return [skin for skin in skins if slow_handles(skin) <= 3]


class SumTest(unittest.TestCase):
    def test_how_many_of_small_ones(self):
        for skin in small_skins():
            self.assertEqual(how_many(skin), len(slow_pairings(skin)))

    def test_how_many(self):
        for skin in few_handles(many_skins(251)) + with_pairings(251):
            self.assertEqual(how_many(skin), len(slow_pairings(skin)))

    def test_sum_of(self):
        rng = random.Random(252)
        for skin in few_handles(many_skins(252)) + with_pairings(252):
            for worths in (drawn_worths(rng, skin), drawn_worths(rng, skin), (0,) * (2 * len(skin)), (-1,) * (2 * len(skin))):
                self.assertEqual(sum_of(skin, worths), slow_sum(skin, worths))

    def test_of_12_fields(self):
        rng = random.Random(253)
        for handles in (0, 1, 2, 3):
            skin = skin_with_pairing(rng, 12, handles)
            for worths in ((10 ** 6,) * 24, drawn_worths(rng, skin), (-10 ** 6,) * 24):
                self.assertEqual(sum_of(skin, worths), slow_sum(skin, worths))
        self.assertEqual(sum_of(grid(3, 4), (1,) * 24), how_many(grid(3, 4)))

    def test_edges_between_the_same_fields_taken_for_one(self):
        rng = random.Random(254)
        for skin in with_pairings(254):
            worths = list(drawn_worths(rng, skin))
            wanted = sum_of(skin, worths)
            for edge in range(len(worths)):
                for other in range(edge):
                    if sorted(slow_joined(skin, edge)) == sorted(slow_joined(skin, other)):
                        worths[other] += worths[edge]
                        worths[edge] = 0
            self.assertEqual(sum_of(skin, worths), wanted)

    def test_an_edge_from_a_field_to_itself_is_in_none(self):
        self.assertEqual(sum_of(TWIN, (3, 10 ** 6, -5, -10 ** 6)), -2)
        self.assertEqual([sum_with(TWIN, (3, 7, -5, 7), edge) for edge in range(4)], [3, 0, -5, 0])
        self.assertEqual([ways_of(TWIN, own) for own in ((1,), (3,), (0, 1), (0,), (1, 3))], [0, 0, 0, 1, 0])

    def test_without_a_pairing(self):
        rng = random.Random(255)
        for skin in UNPAIRED:
            worths, lot = drawn_worths(rng, skin), drawn_lot(rng, skin)
            told = [how_many(skin), sum_of(skin, worths), sum_without(skin, worths, lot), sum_with(skin, worths, 1)]
            self.assertEqual(told + [ways_of(skin, lot), ways_of(skin, ())], [0] * 6)
            for pairing in ((), (0,), tuple(range(len(skin) // 2))):
                self.assertEqual(raised(parts, skin, worths, pairing), (Unfit, {}))
                self.assertEqual(raised(part_of, skin, worths, (0,) * (2 * len(skin)), pairing), (Unfit, {}))


class PartsTest(unittest.TestCase):
    def test_added_up_they_are_2_to_the_h_times_the_sum(self):
        rng = random.Random(256)
        for skin in with_pairings(256):
            worths, pairing = drawn_worths(rng, skin), drawn_pairing(rng, skin)
            told = parts(skin, worths, pairing)
            handles = slow_handles(skin)
            self.assertIsInstance(told, tuple)
            self.assertEqual(len(told), 4 ** handles)
            self.assertEqual(sum(told), 2 ** handles * slow_sum(skin, worths))
            # By each other told PAIRING they are the same.
            self.assertEqual(parts(skin, list(worths), list(drawn_pairing(rng, skin))), told)

    def test_each_is_that_of_its_kind(self):
        rng = random.Random(257)
        for skin in with_pairings(257):
            worths, pairing = drawn_worths(rng, skin), drawn_pairing(rng, skin)
            told = parts(skin, worths, pairing)
            kinds = all_bits(2 * slow_handles(skin))
            for arrows in all_kinds(skin)[:5] + [arrows_of(skin, kinds[-1])]:
                wanted = told[kinds.index(kind_of(skin, arrows))]
                self.assertEqual(part_of(skin, worths, arrows, pairing), wanted)

    def test_of_any_good_arrows_and_any_pairing(self):
        rng = random.Random(258)
        for skin in with_pairings(258):
            worths = drawn_worths(rng, skin)
            told = parts(skin, worths, drawn_pairing(rng, skin))
            kinds = all_bits(2 * slow_handles(skin))
            for _ in range(3):
                arrows, pairing = good_at(skin, rng.randrange(many_good(skin))), drawn_pairing(rng, skin)
                part = part_of(skin, worths, arrows, pairing)
                self.assertEqual(part, told[kinds.index(kind_of(skin, arrows))])
                if slow_handles(skin) < 3:
                    self.assertEqual(part, slow_part(skin, worths, arrows, pairing))
                multiplied = mark(skin, arrows, pairing) * sign_of(skin, arrows, pairing)
                self.assertEqual(part, multiplied * paired_sum(signed_table(skin, arrows, worths)))

    def test_without_handle_the_part_is_the_sum(self):
        rng = random.Random(259)
        for skin in with_pairings(259, 2, (0,)):
            worths = drawn_worths(rng, skin)
            self.assertEqual(parts(skin, worths, drawn_pairing(rng, skin)), (slow_sum(skin, worths),))


class SomeOfThemTest(unittest.TestCase):
    def test_without_a_lot(self):
        rng = random.Random(260)
        for skin in with_pairings(260):
            worths = drawn_worths(rng, skin)
            for lot in [drawn_lot(rng, skin), (), tuple(range(2 * len(skin))), drawn_pairing(rng, skin)]:
                wanted = slow_sum(skin, worths, lambda pairing: not set(pairing) & set(lot))
                self.assertEqual(sum_without(skin, worths, lot), wanted)

    def test_with_an_edge(self):
        rng = random.Random(261)
        for skin in with_pairings(261):
            worths = drawn_worths(rng, skin)
            whole = sum_of(skin, worths)
            for edge in rng.sample(range(2 * len(skin)), 3):
                told = sum_with(skin, worths, edge)
                self.assertEqual(told, slow_sum(skin, worths, lambda pairing: edge in pairing))
                self.assertEqual(told + sum_without(skin, worths, (edge,)), whole)

    def test_with_an_edge_worth_nothing(self):
        self.assertEqual([sum_with(QUAD, (0,) + (1,) * 7, edge) for edge in (0, 1, 7)], [0, 2, 1])
        self.assertEqual(sum_with(PILLOW, (0, 4, 5, 6), 0), 0)

    def test_with_a_lot(self):
        rng = random.Random(262)
        for skin in with_pairings(262):
            pairing = drawn_pairing(rng, skin)
            some = tuple(edge for edge in pairing if rng.randrange(2))
            more = tuple(sorted(set(some) | {rng.randrange(2 * len(skin))}))
            for lot in (some, more, (), pairing, drawn_lot(rng, skin)):
                wanted = sum(set(lot) <= set(own) for own in slow_pairings(skin))
                self.assertEqual(ways_of(skin, lot), wanted)
            self.assertEqual(ways_of(skin, pairing), 1)

    def test_two_edges_that_share_a_field(self):
        for skin in (QUAD, FOUR, SIX, grid(2, 6)):
            for edge in range(2 * len(skin)):
                for other in range(edge):
                    if set(slow_joined(skin, edge)) & set(slow_joined(skin, other)):
                        self.assertEqual(ways_of(skin, (other, edge)), 0)


class RefusalsTest(unittest.TestCase):
    def test_more_than_3_handles(self):
        rng = random.Random(263)
        for many, handles in ((8, 4), (9, 4), (10, 5), (12, 4), (12, 6)):
            skin = skin_with_handles(rng, many, handles)
            worths = drawn_worths(rng, skin)
            for function, given in (
                (how_many, ()), (sum_of, (worths,)), (sum_without, (worths, ())), (sum_with, (worths, 0)), (ways_of, ((),)),
            ):
                self.assertEqual(raised(function, skin, *given), (TooMany, {}))
            self.assertEqual(raised(sum_of, skin, worths[1:]), (Unfit, {}))
            self.assertEqual(raised(sum_without, skin, worths, (0, 0)), (Unfit, {}))
            self.assertEqual(raised(ways_of, skin, (0, 0)), (Unfit, {}))
            self.assertEqual(raised(sum_with, skin, worths, 2 * many), (NoEdge, {"edge": 2 * many}))
            self.assertEqual(raised(sum_with, skin, worths, -1), (NoEdge, {"edge": -1}))
            self.assertEqual(raised(sum_with, skin, worths, True), (Unfit, {}))
        for many, handles in ((8, 4), (10, 5)):
            skin = skin_with_pairing(rng, many, handles)
            pairing, good = drawn_pairing(rng, skin), good_at(skin, 0)
            worths = drawn_worths(rng, skin)
            self.assertEqual(raised(parts, skin, worths, pairing), (TooMany, {}))
            self.assertEqual(raised(part_of, skin, worths, good, pairing), (TooMany, {}))
            self.assertEqual(raised(parts, skin, worths, pairing[1:]), (Unfit, {}))
            self.assertEqual(raised(part_of, skin, worths, good[1:], pairing), (Unfit, {}))
            self.assertIn(mark_by_pairs(skin, good, pairing), (1, -1))

    def test_no_edge(self):
        for bad in (4, -1, 99, 10 ** 30):
            self.assertEqual(raised(sum_with, TWIN, (1, 1, 1, 1), bad), (NoEdge, {"edge": bad}))
            self.assertEqual(raised(sum_with, TWIN, (1, 1, 1), bad), (Unfit, {}))
        for bad in (None, True, False, "0", (0,), 0.0):
            self.assertEqual(raised(sum_with, TWIN, (1, 1, 1, 1), bad), (Unfit, {}))

    def test_no_worths(self):
        for bad in (None, 0, "1111", (), (1, 1, 1), (1,) * 5, (1, 1, 1, True), (1, 1, 1, None), ((1,),) * 4, {0: 1}, [1, 1, 1, [1]]):
            self.assertEqual(raised(sum_of, TWIN, bad), (Unfit, {}))
            self.assertEqual(raised(parts, TWIN, bad, (0,)), (Unfit, {}))
            self.assertEqual(raised(part_of, TWIN, bad, (0, 1, 0, 0), (0,)), (Unfit, {}))
            self.assertEqual(raised(sum_with, TWIN, bad, 99), (Unfit, {}))
            self.assertEqual(raised(sum_without, TWIN, bad, ()), (Unfit, {}))

    def test_no_lot(self):
        for bad in (None, 0, "0", (1, 0), (0, 0), (4,), (-1,), (True,), (0, True), ((0,),), {0: 0}, [[0]], (0, 1.0)):
            self.assertEqual(raised(ways_of, TWIN, bad), (Unfit, {}))
            self.assertEqual(raised(sum_without, TWIN, (1, 1, 1, 1), bad), (Unfit, {}))

    def test_no_good_arrows_and_no_pairing(self):
        for bad in odd_things() + [(0, 0, 0, 0), (0, 1, 0), (0, 1, 0, False), "0100"]:
            self.assertEqual(raised(part_of, TWIN, (1, 1, 1, 1), bad, (0,)), (Unfit, {}))
        for bad in odd_things() + [(1,), (4,), (0, 2), (True,), ((0,),), (False,)]:
            self.assertEqual(raised(part_of, TWIN, (1, 1, 1, 1), (0, 1, 0, 0), bad), (Unfit, {}))
            self.assertEqual(raised(parts, TWIN, (1, 1, 1, 1), bad), (Unfit, {}))

    def test_no_skin(self):
        for bad in (None, 0, (), "skin", TWIN[:1], ring_of(12)[:11], (((0, 0),) * 4,)):
            self.assertEqual(raised(how_many, bad), (Unfit, {}))
            self.assertEqual(raised(ways_of, bad, ()), (Unfit, {}))
            self.assertEqual(raised(sum_of, bad, ()), (Unfit, {}))


if __name__ == "__main__":
    unittest.main()
