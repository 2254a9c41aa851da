"""[19]: pairings by their numbers."""

import itertools
import random
import unittest

from handlepairs.counts import how_many, sum_of, ways_of
from handlepairs.errors import CanNot, TooMany, Unfit, Unpaired
from handlepairs.numbered import (
    begun_with, greatest_pairing, how_many_with, least_pairing, next_pairing, pairing_ahead, pairing_at, pairing_number,
    pairings_from,
)
from handlepairs.pairings import all_pairings
from tests.drawn import BALL_OF_ONE, ONE, PAIR, PILLOW, TWIN, as_lists, grid, odd_things, raised, ring_of, small_skins
from tests.shapes import (
    FOUR, QUAD, SIX, THREE, chain_of, drawn_lot, drawn_pairing, lacking, skin_with_handles, skin_with_pairing, with_pairings,
)
from tests.slow import slow_joined, slow_pairings

UNPAIRED = [ONE, BALL_OF_ONE, PAIR, THREE, ring_of(3), ring_of(11), chain_of(9), SIX, lacking((1, 1, 1, 1)), lacking((3, 3, 3, 1))]


def wanted_with(skin, lot, other):
    """How many PAIRINGS have all of the lot and none of the other one."""
    return sum(set(lot) <= set(own) and not set(other) & set(own) for own in slow_pairings(skin))


def many_of_them(seed, least=2):
    """SKINS with so many PAIRINGS, of up to 12 fields."""
    rng = random.Random(seed)
    told = with_pairings(seed) + [grid(2, 6), skin_with_pairing(rng, 10, 2), skin_with_pairing(rng, 12, 1)]
    return [skin for skin in told if len(slow_pairings(skin)) >= least]


class HowManyTest(unittest.TestCase):
    def test_of_small_ones(self):
        rng = random.Random(291)
        for skin in list(small_skins())[::5]:
            for _ in range(4):
                lot, other = drawn_lot(rng, skin), drawn_lot(rng, skin)
                self.assertEqual(how_many_with(skin, lot, other), wanted_with(skin, lot, other))

    def test_of_some_lots(self):
        rng = random.Random(292)
        for skin in many_of_them(292, 1):
            pairing = drawn_pairing(rng, skin)
            for _ in range(4):
                lot = tuple(edge for edge in pairing if rng.random() < 0.4)
                other = tuple(edge for edge in drawn_lot(rng, skin) if rng.random() < 0.3)
                self.assertEqual(how_many_with(skin, lot, other), wanted_with(skin, lot, other))
            self.assertEqual(how_many_with(skin, (), ()), how_many(skin))
            self.assertEqual(how_many_with(skin, pairing, ()), 1)
            self.assertEqual(how_many_with(skin, (), pairing), wanted_with(skin, (), pairing))

    def test_an_edge_in_one_and_in_the_other(self):
        rng = random.Random(293)
        for skin in many_of_them(293):
            lot = drawn_pairing(rng, skin)[:1]
            for edge in rng.sample(range(2 * len(skin)), 4):
                if edge not in lot:
                    more = tuple(sorted(lot + (edge,)))
                    both = how_many_with(skin, more, ()) + how_many_with(skin, lot, (edge,))
                    self.assertEqual(both, how_many_with(skin, lot, ()))
                    self.assertEqual(how_many_with(skin, more, (edge,)), 0)

    def test_none(self):
        for skin in (TWIN, QUAD, FOUR, grid(3, 4)):
            for edge in range(2 * len(skin)):
                fields = slow_joined(skin, edge)
                self.assertEqual(how_many_with(skin, (edge,), (edge,)), 0)
                if fields[0] == fields[1]:
                    self.assertEqual(how_many_with(skin, (edge,), ()), 0)
                for other in range(edge):
                    if set(fields) & set(slow_joined(skin, other)):
                        self.assertEqual(how_many_with(skin, (other, edge), ()), 0)
        for skin in UNPAIRED:
            self.assertEqual(how_many_with(skin, (), ()), 0)
            self.assertEqual(how_many_with(skin, (0, 1), (1,)), 0)

    def test_it_is_the_sum_of_worths_0_and_1(self):
        rng = random.Random(294)
        for skin in many_of_them(294, 1)[::2]:
            other = drawn_lot(rng, skin)
            worths = tuple(0 if edge in other else 1 for edge in range(2 * len(skin)))
            self.assertEqual(how_many_with(skin, (), other), sum_of(skin, worths))
            lot = drawn_pairing(rng, skin)[:2]
            self.assertEqual(how_many_with(skin, lot, ()), ways_of(skin, lot))


class NumbersTest(unittest.TestCase):
    def test_each_of_all(self):
        for skin in [TWIN, PILLOW, QUAD, FOUR, grid(2, 3), grid(1, 8)] + many_of_them(295)[::6]:
            told = slow_pairings(skin)
            for number, pairing in enumerate(told):
                self.assertEqual(pairing_number(skin, pairing), number)
                self.assertEqual(pairing_at(skin, number), pairing)
            self.assertEqual(pairings_from(skin, 0, 100), told[:100])
            if len(skin) <= 8:
                self.assertEqual(told, all_pairings(skin))

    def test_some_of_many(self):
        rng = random.Random(296)
        for skin in many_of_them(296):
            told = slow_pairings(skin)
            for number in [0, len(told) - 1] + [rng.randrange(len(told)) for _ in range(2)]:
                self.assertEqual(pairing_number(skin, list(told[number])), number)
                self.assertEqual(pairing_at(as_lists(skin), number), told[number])

    def test_of_12_fields_and_3_handles(self):
        rng = random.Random(297)
        skin = next(own for own in iter(lambda: skin_with_pairing(rng, 12, 3), None) if len(slow_pairings(own)) > 40)
        told = slow_pairings(skin)
        for number in (0, 17, len(told) - 1):
            self.assertEqual(pairing_at(skin, number), told[number])
            self.assertEqual(pairing_number(skin, told[number]), number)
        self.assertEqual(pairings_from(skin, 5, 20), told[5:25])

    def test_the_first_and_the_last(self):
        for skin in many_of_them(298, 1):
            told = slow_pairings(skin)
            self.assertEqual(least_pairing(skin), told[0])
            self.assertEqual(greatest_pairing(skin), told[-1])
            self.assertEqual(raised(pairing_ahead, skin, told[0]), (CanNot, {}))
            self.assertEqual(raised(next_pairing, skin, told[-1]), (CanNot, {}))
            for far in (len(told), len(told) + 1, 10 ** 6, 10 ** 40):
                self.assertEqual(raised(pairing_at, skin, far), (CanNot, {}))
                self.assertEqual(pairings_from(skin, far, 3), [])

    def test_the_next_one_and_the_one_ahead(self):
        rng = random.Random(299)
        for skin in many_of_them(299):
            told = slow_pairings(skin)
            at = rng.randrange(len(told) - 1)
            self.assertEqual(next_pairing(skin, told[at]), told[at + 1])
            self.assertEqual(pairing_ahead(skin, told[at + 1]), told[at])
        for one, other in itertools.pairwise(slow_pairings(QUAD)):
            self.assertEqual(next_pairing(QUAD, one), other)
            self.assertEqual(pairing_ahead(QUAD, list(other)), one)

    def test_from_a_number_on(self):
        rng = random.Random(300)
        for skin in many_of_them(300):
            told = slow_pairings(skin)
            number, many = rng.randrange(len(told)), rng.randrange(9)
            self.assertEqual(pairings_from(skin, number, many), told[number:number + many])
            self.assertEqual(pairings_from(skin, number, 0), [])
        one = pairings_from(QUAD, 0, 3)
        one.append("more")
        self.assertEqual(pairings_from(QUAD, 0, 3), slow_pairings(QUAD)[:3])

    def test_without_a_pairing(self):
        for skin in UNPAIRED:
            self.assertEqual(raised(least_pairing, skin), (Unpaired, {}))
            self.assertEqual(raised(greatest_pairing, skin), (Unpaired, {}))
            for number in (0, 1, 10 ** 6):
                self.assertEqual(raised(pairing_at, skin, number), (CanNot, {}))
                self.assertEqual(pairings_from(skin, number, 100), [])
            self.assertEqual(begun_with(skin, ()), ())
            for function in (pairing_number, next_pairing, pairing_ahead):
                for bad in ((), (0,), tuple(range(len(skin) // 2))):
                    self.assertEqual(raised(function, skin, bad), (Unfit, {}))


class BegunWithTest(unittest.TestCase):
    def test_all_beginnings(self):
        for skin in [TWIN, PILLOW, QUAD, FOUR] + many_of_them(301)[::4]:
            told = slow_pairings(skin)
            beginnings = {own[:many] for own in told for many in range(len(own) + 1)}
            for lot in sorted(beginnings)[:12]:
                wanted = sorted({own[len(lot)] for own in told if own[:len(lot)] == lot and own != lot})
                self.assertEqual(begun_with(skin, lot), tuple(wanted))

    def test_what_is_no_beginning(self):
        rng = random.Random(302)
        for skin in many_of_them(302):
            told = slow_pairings(skin)
            for _ in range(3):
                lot = drawn_lot(rng, skin)
                wanted = sorted({own[len(lot)] for own in told if own[:len(lot)] == lot and own != lot})
                self.assertEqual(begun_with(skin, lot), tuple(wanted))
            # Of a PAIRING, but not its first numbers, if a lesser one must be there too.
            lot = told[-1][1:]
            wanted = sorted({own[len(lot)] for own in told if own[:len(lot)] == lot and own != lot})
            self.assertEqual(begun_with(skin, lot), tuple(wanted))

    def test_a_whole_pairing(self):
        for skin in many_of_them(303, 1)[::3]:
            self.assertEqual(begun_with(skin, slow_pairings(skin)[-1]), ())


class RefusalsTest(unittest.TestCase):
    def test_more_than_3_handles(self):
        rng = random.Random(304)
        for many, handles in ((8, 4), (10, 5), (12, 4)):
            skin = skin_with_pairing(rng, many, handles)
            pairing = drawn_pairing(rng, skin)
            for function, given in (
                (how_many_with, ((), ())), (pairing_number, (pairing,)), (pairing_at, (0,)), (least_pairing, ()),
                (greatest_pairing, ()), (next_pairing, (pairing,)), (pairing_ahead, (pairing,)), (pairings_from, (0, 1)),
                (pairings_from, (0, 101)), (begun_with, ((),)),
            ):
                self.assertEqual(raised(function, skin, *given), (TooMany, {}))
            for function in (pairing_number, next_pairing, pairing_ahead):
                self.assertEqual(raised(function, skin, pairing[1:]), (Unfit, {}))
            self.assertEqual(raised(pairing_at, skin, -1), (Unfit, {}))
            self.assertEqual(raised(pairings_from, skin, 0, -1), (Unfit, {}))
            self.assertEqual(raised(begun_with, skin, (1, 0)), (Unfit, {}))
            self.assertEqual(raised(how_many_with, skin, (), (0, 0)), (Unfit, {}))
        for many, handles in ((9, 4), (11, 5)):
            skin = skin_with_handles(rng, many, handles)
            for function in (least_pairing, greatest_pairing):
                self.assertEqual(raised(function, skin), (TooMany, {}))
            self.assertEqual(raised(pairing_at, skin, 0), (TooMany, {}))

    def test_more_than_100(self):
        for skin in (TWIN, QUAD, ONE, SIX):
            self.assertEqual(raised(pairings_from, skin, 0, 101), (TooMany, {}))
            self.assertEqual(raised(pairings_from, skin, 10 ** 6, 10 ** 6), (TooMany, {}))
            self.assertEqual(raised(pairings_from, skin, -1, 101), (Unfit, {}))
            self.assertEqual(pairings_from(skin, 0, 100), slow_pairings(skin))

    def test_no_number(self):
        for bad in (None, True, False, "0", (0,), 0.0, -1, -10 ** 30, [0]):
            self.assertEqual(raised(pairing_at, TWIN, bad), (Unfit, {}))
            self.assertEqual(raised(pairings_from, TWIN, bad, 1), (Unfit, {}))
            self.assertEqual(raised(pairings_from, TWIN, 0, bad), (Unfit, {}))

    def test_no_lot_and_no_pairing(self):
        for bad in (None, 0, "0", (1, 0), (0, 0), (4,), (-1,), (True,), (0, True), ((0,),), {0: 0}, [[0]], (0, 1.0)):
            self.assertEqual(raised(how_many_with, TWIN, bad, ()), (Unfit, {}))
            self.assertEqual(raised(how_many_with, TWIN, (), bad), (Unfit, {}))
            self.assertEqual(raised(begun_with, TWIN, bad), (Unfit, {}))
        for bad in odd_things() + [(1,), (4,), (0, 2), (True,), ((0,),), (False,)]:
            for function in (pairing_number, next_pairing, pairing_ahead):
                self.assertEqual(raised(function, TWIN, bad), (Unfit, {}))

    def test_no_skin(self):
        for bad in (None, 0, (), "skin", TWIN[:1], ring_of(12)[:11], (((0, 0),) * 4,)):
            for function in (least_pairing, greatest_pairing):
                self.assertEqual(raised(function, bad), (Unfit, {}))
            self.assertEqual(raised(pairing_at, bad, 0), (Unfit, {}))
            self.assertEqual(raised(begun_with, bad, ()), (Unfit, {}))


if __name__ == "__main__":
    unittest.main()
