"""[3], [9]: arrows, good ones."""

import random
import unittest

from handlepairs.arrows import (
    against, against_at, are_good, bad_corners, good_arrows, good_at, is_arrows, many_good, mended, number_of_good,
    odd_reason, turned_lot,
)
from handlepairs.errors import CanNot, Odd, Unfit
from handlepairs.trees import corner_tree
from tests.drawn import BALL_OF_ONE, ONE, PAIR, PILLOW, TWIN, grid, odd_things, raised, ring_of, small_skins
from tests.shapes import (
    QUAD, ROW, SIX, THREE, chain_of, drawn_arrows, drawn_lot, drawn_ring, even, many_skins, odd, skin_with_handles,
)
from tests.slow import (
    all_bits, ends_evenly, slow_against, slow_all_good, slow_contrary, slow_corners, slow_handles, slow_is_good,
    slow_lot_of_ring, slow_ring_round,
)


class IsArrowsTest(unittest.TestCase):
    def test_bits_for_each_edge(self):
        rng = random.Random(81)
        for skin in many_skins(81):
            arrows = drawn_arrows(rng, skin)
            self.assertIs(is_arrows(skin, arrows), True)
            for thing in (arrows[:-1], arrows + (0,), list(arrows), (arrows,), arrows + arrows):
                self.assertIs(is_arrows(skin, thing), False)
            for bad in (2, -1, True, False, None, "0", (0,), [1], 10 ** 30):
                at = rng.randrange(len(arrows))
                self.assertIs(is_arrows(skin, arrows[:at] + (bad,) + arrows[at + 1:]), False)

    def test_whatever_else(self):
        for thing in odd_things():
            self.assertIs(is_arrows(TWIN, thing), False)
            self.assertEqual(raised(is_arrows, TWIN[:1], thing), (Unfit, {}))
        self.assertEqual(raised(is_arrows, TWIN[:1], (0, 0, 0, 0)), (Unfit, {}))


class AgainstTest(unittest.TestCase):
    def test_of_rings(self):
        rng = random.Random(82)
        for skin in many_skins(82, 4):
            for _ in range(4):
                arrows, ring = drawn_arrows(rng, skin), drawn_ring(rng, skin)
                self.assertEqual(against(skin, arrows, ring), slow_against(skin, arrows, ring) % 2)

    def test_one_of_two_crossings_of_an_edge(self):
        for arrows in all_bits(4):
            for crossing in ((0, 0), (0, 2)):
                there_and_back = (crossing, slow_contrary(TWIN, crossing))
                self.assertEqual(against(TWIN, arrows, there_and_back), 1)
            self.assertEqual(against(TWIN, arrows, ((0, 1),)), arrows[1])
            self.assertEqual(against(TWIN, arrows, ((0, 3),)), 1 - arrows[1])

    def test_round_corners(self):
        rng = random.Random(83)
        for skin in list(small_skins()) + many_skins(83, 4):
            arrows = drawn_arrows(rng, skin)
            told = against_at(skin, arrows)
            wanted = [slow_against(skin, arrows, slow_ring_round(skin, own)) for own in range(len(slow_corners(skin)))]
            self.assertEqual(told, tuple(wanted))
            self.assertEqual(sum(told), 2 * len(skin))
            bad = tuple(corner for corner, many in enumerate(wanted) if many % 2 == 0)
            self.assertEqual(bad_corners(skin, arrows), bad)
            self.assertIs(are_good(skin, arrows), bad == ())
            self.assertIs(are_good(skin, arrows), slow_is_good(skin, arrows))

    def test_one_corner_alone(self):
        for arrows in all_bits(4):
            self.assertEqual(against_at(ONE, arrows[:2]), (2,))
            self.assertEqual(bad_corners(ONE, arrows[:2]), (0,))
        for skin in (PAIR, ROW, THREE):
            arrows = (0, 1) * 3
            self.assertEqual((against_at(skin, arrows), bad_corners(skin, arrows)), ((6,), (0,)))

    def test_with_a_lot_turned(self):
        rng = random.Random(84)
        for skin in many_skins(84, 4):
            arrows, lot, ring = drawn_arrows(rng, skin), drawn_lot(rng, skin), drawn_ring(rng, skin)
            told = turned_lot(skin, arrows, lot)
            self.assertEqual(told, tuple(1 - bit if edge in lot else bit for edge, bit in enumerate(arrows)))
            self.assertEqual(turned_lot(skin, told, lot), arrows)
            self.assertEqual(turned_lot(skin, arrows, ()), arrows)
            shared = len(set(lot) & set(slow_lot_of_ring(skin, ring)))
            self.assertEqual(against(skin, told, ring), (against(skin, arrows, ring) + shared) % 2)

    def test_good_ones_stay_so_by_even_lots_alone(self):
        rng = random.Random(85)
        for skin in even(many_skins(85, 3)):
            good = good_arrows(skin)
            for _ in range(6):
                lot = drawn_lot(rng, skin)
                self.assertIs(are_good(skin, turned_lot(skin, good, lot)), ends_evenly(skin, lot))


class GoodTest(unittest.TestCase):
    def test_all_arrows_of_small_ones(self):
        for skin in list(small_skins()) + [QUAD, PAIR, ROW, chain_of(3), chain_of(4)]:
            good = slow_all_good(skin)
            for arrows in all_bits(2 * len(skin)):
                self.assertIs(are_good(skin, arrows), arrows in good)
            self.assertEqual(many_good(skin), len(good))
            if len(skin) % 2 == 0:
                told = [good_at(skin, number) for number in range(many_good(skin))]
                self.assertEqual(sorted(told), good)
                self.assertEqual([number_of_good(skin, own) for own in told], list(range(len(good))))

    def test_how_many(self):
        rng = random.Random(86)
        for skin in many_skins(86):
            wanted = 0 if len(skin) % 2 else 4 ** slow_handles(skin) * 2 ** (len(skin) - 1)
            self.assertEqual(many_good(skin), wanted)
        self.assertEqual(many_good(skin_with_handles(rng, 12, 6)), 2 ** 23)
        self.assertEqual(many_good(chain_of(12)), 2 ** 11)
        self.assertEqual([many_good(own) for own in (ONE, BALL_OF_ONE, PAIR)], [0, 0, 0])

    def test_mended(self):
        rng = random.Random(87)
        for skin in even(many_skins(87, 4)):
            tree = corner_tree(skin)
            for arrows in [drawn_arrows(rng, skin) for _ in range(4)] + [(0,) * (2 * len(skin)), (1,) * (2 * len(skin))]:
                told = mended(skin, arrows)
                self.assertIs(slow_is_good(skin, told), True)
                apart = [edge for edge, (one, other) in enumerate(zip(arrows, told)) if one != other]
                self.assertLessEqual(set(apart), set(tree))
                self.assertEqual(mended(skin, told), told)
                # There are just one such: with any more of the corner tree turned they are not good.
                for edge in tree:
                    self.assertIs(are_good(skin, turned_lot(skin, told, (edge,))), False)

    def test_good_arrows_are_mended_ones_of_noughts(self):
        for skin in even(many_skins(88)):
            good = good_arrows(skin)
            self.assertEqual(good, mended(skin, (0,) * (2 * len(skin))))
            self.assertEqual(good, good_at(skin, 0))
            self.assertEqual(number_of_good(skin, good), 0)
            self.assertTrue(all(bit == 0 or edge in corner_tree(skin) for edge, bit in enumerate(good)))

    def test_numbers(self):
        rng = random.Random(89)
        for skin in even(many_skins(89)):
            free = [edge for edge in range(2 * len(skin)) if edge not in corner_tree(skin)]
            self.assertEqual(2 ** len(free), many_good(skin))
            for number in [rng.randrange(many_good(skin)) for _ in range(5)] + [many_good(skin) - 1]:
                told = good_at(skin, number)
                self.assertIs(slow_is_good(skin, told), True)
                self.assertEqual(sum(told[edge] * 2 ** place for place, edge in enumerate(free)), number)
                self.assertEqual(number_of_good(skin, told), number)

    def test_not_good_ones_have_no_number(self):
        rng = random.Random(90)
        for skin in many_skins(90, 3):
            for _ in range(3):
                arrows = drawn_arrows(rng, skin)
                if not slow_is_good(skin, arrows):
                    self.assertEqual(raised(number_of_good, skin, arrows), (CanNot, {}))
        self.assertEqual(raised(number_of_good, ONE, (0, 0)), (CanNot, {}))
        self.assertEqual(raised(number_of_good, PAIR, (0,) * 6), (CanNot, {}))


class OddTest(unittest.TestCase):
    def test_no_good_arrows(self):
        rng = random.Random(91)
        for skin in odd(list(small_skins()) + many_skins(91)):
            arrows = drawn_arrows(rng, skin)
            self.assertIs(are_good(skin, arrows), False)
            self.assertNotEqual(bad_corners(skin, arrows), ())
            self.assertEqual(raised(good_arrows, skin), (Odd, {}))
            self.assertEqual(raised(mended, skin, arrows), (Odd, {}))
            for number in (0, 1, 10 ** 30):
                self.assertEqual(raised(good_at, skin, number), (Odd, {}))

    def test_the_reason(self):
        for skin in odd(list(small_skins()) + many_skins(92)):
            told = odd_reason(skin)
            self.assertEqual(told, (len(slow_corners(skin)), 2 * len(skin)))
            self.assertIsInstance(told, tuple)
            self.assertEqual((told[0] % 2, told[1] % 2), (1, 0))

    def test_there_is_none_for_an_even_number_of_fields(self):
        for skin in even(list(small_skins()) + many_skins(93)):
            self.assertEqual(raised(odd_reason, skin), (CanNot, {}))


class RefusalsTest(unittest.TestCase):
    def test_numbers_that_are_too_great(self):
        for skin in (TWIN, PILLOW, SIX, grid(3, 4)):
            many = many_good(skin)
            for number in (many, many + 1, 10 ** 30, 10 ** 300):
                self.assertEqual(raised(good_at, skin, number), (CanNot, {}))
            self.assertIs(are_good(skin, good_at(skin, many - 1)), True)

    def test_what_is_no_number_from_0(self):
        for skin in (TWIN, ONE, ring_of(12)):
            for bad in (-1, -10 ** 30, True, False, None, "0", (0,), [1], 1.0, {}):
                self.assertEqual(raised(good_at, skin, bad), (Unfit, {}))
                self.assertEqual(raised(good_at, skin[:-1] + ((),), bad), (Unfit, {}))

    def test_what_are_no_arrows(self):
        for bad in odd_things() + [
            (0, 0, 0), (0,) * 5, (0, 0, 0, 2), (-1, 0, 0, 0), (0, 0, 0, True), (False, 0, 0, 0), "0000", {0: 0}, [0, 0, 0, [0]],
        ]:
            for function in (against_at, bad_corners, are_good, mended, number_of_good):
                self.assertEqual(raised(function, TWIN, bad), (Unfit, {}))
                self.assertEqual(raised(function, TWIN[:1], bad), (Unfit, {}))
                self.assertEqual(raised(function, ONE, bad), (Unfit, {}))
            self.assertEqual(raised(against, TWIN, bad, ((0, 1),)), (Unfit, {}))
            self.assertEqual(raised(turned_lot, TWIN, bad, (0,)), (Unfit, {}))

    def test_what_is_no_ring_or_no_lot(self):
        arrows = (0, 0, 0, 0)
        for bad in (None, 0, (), ((0, 0),), ((0, 4),), ((0, True),), (0, 1), "01", [[0, 1], [1, 1]]):
            self.assertEqual(raised(against, TWIN, arrows, bad), (Unfit, {}))
        for bad in (None, 0, (4,), (-1,), (1, 0), (0, 0), (True,), "0", ((0,),)):
            self.assertEqual(raised(turned_lot, TWIN, arrows, bad), (Unfit, {}))


if __name__ == "__main__":
    unittest.main()
