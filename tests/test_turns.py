"""[3], [16]: even lots, what they are crossed by, steps, and arrows led from kind to kind."""

import itertools
import random
import unittest

from handlepairs.arrows import are_good, good_arrows, good_at, many_good
from handlepairs.errors import TooMany, Unfit
from handlepairs.kinds import kind_of
from handlepairs.rings import put_together
from handlepairs.turns import (
    are_step_rows, crossed, fewest_turned, is_even_lot, is_kind_led, is_lot_of, kind_led, lot_of, step_rows, steps,
)
from tests.drawn import BALL_OF_ONE, ONE, PAIR, PILLOW, TWIN, as_lists, grid, odd_things, raised, ring_of, small_skins
from tests.shapes import (
    FOUR, QUAD, ROW, SIX, THREE, chain_of, drawn_class, drawn_lot, even, many_skins, skin_with_handles,
)
from tests.slow import (
    all_bits, ends_evenly, slow_all_good, slow_class_of_lot, slow_ends, slow_handle_rings, slow_handles, slow_is_good,
    slow_kind, slow_lots, slow_loops,
)
from tests.slow_sums import slow_crossed, slow_even_lots, slow_lots_of_fields, slow_step_rows, slow_steps


def few_handles(skins):
    return [skin for skin in skins if slow_handles(skin) <= 3]


def small_ones(seed, greatest=5):
    """SKINS of few fields, of which all LOTS can be looked at."""
    rng = random.Random(seed)
    told = [PILLOW, TWIN, PAIR, BALL_OF_ONE, ONE, ROW, QUAD, FOUR, THREE, grid(1, 5), chain_of(5)]
    told += [skin_with_handles(rng, many, own) for many in (2, 3, 4, 5) for own in (0, 1, 2, 3) if 2 * own <= many + 1]
    return [skin for skin in few_handles(told) if len(skin) <= greatest]


def drawn_even_lot(rng, skin):
    """A LOT that ends evenly: the edges of some fields, and some LOOPS."""
    lot = set(rng.choice(sorted(slow_lots_of_fields(skin), key=sorted)))
    for loop in slow_loops(skin):
        if rng.randrange(2):
            lot ^= set(loop)
    return tuple(sorted(lot))


def drawn_good(rng, skin):
    return good_at(skin, rng.randrange(many_good(skin)))


class EvenLotTest(unittest.TestCase):
    def test_all_lots(self):
        for skin in list(small_skins())[::7] + [QUAD, FOUR, THREE]:
            for bits in all_bits(2 * len(skin)):
                lot = tuple(edge for edge, bit in enumerate(bits) if bit)
                self.assertIs(is_even_lot(skin, lot), ends_evenly(skin, lot))

    def test_how_many_there_are(self):
        for skin in small_ones(231):
            handles = slow_handles(skin)
            lots = [lot for lot, _ in slow_even_lots(skin)]
            self.assertEqual(len(lots), 2 ** (len(skin) - 1 + 2 * handles))
            told = [crossed(skin, lot) for lot in lots]
            for one in all_bits(2 * handles):
                self.assertEqual(told.count(one), 2 ** (len(skin) - 1))

    def test_those_of_many_fields(self):
        rng = random.Random(232)
        for skin in many_skins(232):
            lot = drawn_even_lot(rng, skin)
            self.assertIs(is_even_lot(skin, lot), True)
            self.assertIs(is_even_lot(skin, list(lot)), False)
            wanted = lot + (2 * len(skin),)
            self.assertIs(is_even_lot(skin, wanted), False)
            for edge in range(2 * len(skin)):
                one, other = slow_ends(skin)[edge]
                changed = tuple(sorted(set(lot) ^ {edge}))
                self.assertIs(is_even_lot(skin, changed), one == other)

    def test_whatever_else(self):
        for thing in odd_things() + [[0], (True,), (False,), (0.0,), ("0",), ((0,),), 0, (4,), (-4,), (3, 1), (1, 1, 3), [1, 3]]:
            for skin in (TWIN, PILLOW, ONE):
                self.assertIs(is_even_lot(skin, thing), isinstance(thing, tuple) and thing == ())
            self.assertEqual(raised(is_even_lot, TWIN[:1], thing), (Unfit, {}))

    def test_of_4_handles_and_more(self):
        rng = random.Random(233)
        for many, handles in ((8, 4), (10, 5), (12, 6)):
            skin = skin_with_handles(rng, many, handles)
            lot = drawn_even_lot(rng, skin)
            self.assertIs(is_even_lot(skin, lot), True)
            self.assertEqual(crossed(skin, lot), slow_crossed(skin, lot))


class CrossedTest(unittest.TestCase):
    def test_of_any_lot(self):
        rng = random.Random(234)
        for skin in many_skins(234):
            for lot in [drawn_lot(rng, skin) for _ in range(3)] + [()]:
                told = crossed(skin, lot)
                self.assertEqual(told, slow_crossed(skin, lot))
                more = drawn_lot(rng, skin)
                both = tuple(sorted(set(lot) ^ set(more)))
                self.assertEqual(crossed(skin, both), put_together(skin, told, crossed(skin, more)))

    def test_of_loops_of_trees_and_of_the_edges_of_fields(self):
        for skin in many_skins(235, 1):
            zeros = (0,) * (2 * slow_handles(skin))
            for at, loop in enumerate(slow_loops(skin)):
                self.assertEqual(crossed(skin, loop), zeros[:at] + (1,) + zeros[at + 1:])
            self.assertEqual(crossed(skin, slow_lots(skin)[1]), zeros)
            for lot in list(slow_lots_of_fields(skin))[:9]:
                self.assertEqual(crossed(skin, tuple(sorted(lot))), zeros)

    def test_it_is_not_the_class_of_a_lot(self):
        rng = random.Random(236)
        lots = [drawn_lot(rng, FOUR) for _ in range(20)]
        self.assertTrue([lot for lot in lots if crossed(FOUR, lot) != slow_class_of_lot(FOUR, lot)])


class StepRowsTest(unittest.TestCase):
    def test_beside_going_step_by_step(self):
        for skin in few_handles(many_skins(237, 1)):
            told = step_rows(skin)
            self.assertEqual(told, slow_step_rows(skin))
            self.assertIs(are_step_rows(skin, told), True)

    def test_just_one_more_than_the_least_ahead(self):
        for skin in few_handles(many_skins(238, 1)):
            rows, wanted = step_rows(skin), all_bits(2 * slow_handles(skin))
            ends = slow_ends(skin)
            by_edge = [slow_crossed(skin, (edge,)) for edge in range(2 * len(skin))]
            for start, here in itertools.product(range(len(rows)), repeat=2):
                for at, one in enumerate(wanted):
                    ahead = [
                        rows[start][wanted.index(tuple(a ^ b for a, b in zip(one, by_edge[edge])))][both[0] + both[1] - here]
                        for edge, both in enumerate(ends) if here in both
                    ]
                    number = rows[start][at][here]
                    self.assertEqual(number, 0 if (start, at) == (here, 0) else 1 + min(ahead))

    def test_one_number_else(self):
        rng = random.Random(239)
        for skin in few_handles(many_skins(239, 1)):
            rows = step_rows(skin)
            one, at, far = rng.randrange(len(rows)), rng.randrange(len(rows[0])), rng.randrange(len(rows))
            number = rows[one][at][far]
            for other in (number + 1, number - 1, number + 2, bool(number), None, str(number), (number,), float(number)):
                changed = as_lists(rows)
                changed[one][at][far] = other
                told = tuple(tuple(map(tuple, part)) for part in changed)
                self.assertIs(are_step_rows(skin, told), False)

    def test_true_and_false_are_no_steps(self):
        self.assertEqual(step_rows(ONE), (((0,), (1,), (1,), (2,)),))
        self.assertIs(are_step_rows(ONE, (((0,), (1,), (1,), (2,)),)), True)
        for thing in ((((0,), (True,), (1,), (2,)),), (((False,), (1,), (1,), (2,)),)):
            self.assertEqual(thing, step_rows(ONE))
            self.assertIs(are_step_rows(ONE, thing), False)

    def test_lists_and_rows_more_or_less(self):
        rows = step_rows(FOUR)
        for thing in (
            list(rows), as_lists(rows), (list(rows[0]),) + rows[1:], rows[:-1], rows + rows[-1:], rows[0], (rows,), (),
            tuple(part[:-1] for part in rows), tuple(part + part[-1:] for part in rows),
            tuple(tuple(row + (0,) for row in part) for part in rows), tuple(tuple(map(list, part)) for part in rows),
        ):
            self.assertIs(are_step_rows(FOUR, thing), False)
        for thing in odd_things():
            self.assertIs(are_step_rows(FOUR, thing), False)
            self.assertIs(are_step_rows(PILLOW, thing), False)
            self.assertEqual(raised(are_step_rows, FOUR[:1], thing), (Unfit, {}))


class StepsTest(unittest.TestCase):
    def test_beside_all_even_lots(self):
        for skin in small_ones(240):
            told = steps(skin)
            self.assertIsInstance(told, tuple)
            self.assertEqual(told, slow_steps(skin))

    def test_what_holds_of_them(self):
        for skin in few_handles(many_skins(241)):
            told, wanted = steps(skin), all_bits(2 * slow_handles(skin))
            self.assertEqual(len(told), len(wanted))
            for at, one in enumerate(wanted):
                self.assertEqual(told[at] == 0, not any(one))
                self.assertLessEqual(told[at], 2 * len(skin))
                for far, other in enumerate(wanted):
                    both = wanted.index(tuple(a ^ b for a, b in zip(one, other)))
                    self.assertEqual(both, at ^ far)
                    self.assertLessEqual(told[both], told[at] + told[far])

    def test_beside_the_lots_of_fields(self):
        """All EVEN LOTS of a CLASS are one of them and the edges of some fields, counted by two."""
        rng = random.Random(242)
        for skin in few_handles(many_skins(242, 1)):
            told, wanted = steps(skin), all_bits(2 * slow_handles(skin))
            of_fields = slow_lots_of_fields(skin)
            self.assertEqual(len(of_fields), 2 ** (len(skin) - 1))
            for at in rng.sample(range(len(wanted)), min(3, len(wanted))):
                start = set()
                for bit, loop in zip(wanted[at], slow_loops(skin)):
                    start ^= set(loop) if bit else set()
                self.assertEqual(told[at], min(len(start ^ lot) for lot in of_fields))

    def test_parts_that_lie_far_from_one_another(self):
        """Where a walk that comes home once is longer than two that do."""
        found = 0
        for skin in few_handles(many_skins(243, 6)):
            rows, told = step_rows(skin), steps(skin)
            for at, number in enumerate(told):
                closed = min(rows[corner][at][corner] for corner in range(len(rows)))
                self.assertLessEqual(number, closed)
                found += number < closed
        self.assertGreater(found, 3)


class LotOfTest(unittest.TestCase):
    def test_one_of_each_class(self):
        for skin in few_handles(many_skins(244, 1)):
            told = steps(skin)
            for at, one in enumerate(all_bits(2 * slow_handles(skin))):
                lot = lot_of(skin, one)
                self.assertIsInstance(lot, tuple)
                self.assertTrue(ends_evenly(skin, lot))
                self.assertEqual(slow_crossed(skin, lot), one)
                self.assertEqual(len(lot), told[at])
                self.assertIs(is_lot_of(skin, one, lot), True)
                self.assertIs(is_lot_of(skin, one, list(lot)), False)
                self.assertEqual(lot_of(as_lists(skin), list(one)), lot)

    def test_all_lots(self):
        rng = random.Random(245)
        for skin in small_ones(245, 4):
            least = dict(zip(all_bits(2 * slow_handles(skin)), steps(skin)))
            for one in rng.sample(sorted(least), min(3, len(least))):
                for lot, own in slow_even_lots(skin):
                    self.assertIs(is_lot_of(skin, one, lot), own == one and len(lot) == least[one])

    def test_what_is_none(self):
        for thing in [own for own in odd_things() if own != ()] + [[], (1,), (0,), (3, 1), (1, 1, 3), (1, 3, 4), (True, 3), (1, 3.0)]:
            self.assertIs(is_lot_of(TWIN, (0, 1), thing), False)
            self.assertIs(is_lot_of(TWIN, (0, 0), thing), False)
            self.assertEqual(raised(is_lot_of, TWIN, (0, 2), thing), (Unfit, {}))
            self.assertEqual(raised(is_lot_of, TWIN[:1], (0, 1), thing), (Unfit, {}))
        self.assertIs(is_lot_of(TWIN, (0, 0), ()), True)
        self.assertIs(is_lot_of(TWIN, (0, 1), ()), False)
        self.assertIs(is_lot_of(PILLOW, (), ()), True)
        # An EVEN LOT that is CROSSED so, but of more EDGES.
        self.assertIs(is_lot_of(PILLOW, (), (0, 1, 2, 3)), False)


class LedTest(unittest.TestCase):
    def test_led_to_each_kind(self):
        rng = random.Random(246)
        for skin in few_handles(even(many_skins(246))):
            arrows = drawn_good(rng, skin)
            start, told = slow_kind(skin, arrows), steps(skin)
            wanted = all_bits(2 * slow_handles(skin))
            for kind in [start] + rng.sample(wanted, min(4, len(wanted))):
                number = fewest_turned(skin, arrows, kind)
                self.assertEqual(number, told[wanted.index(tuple(a ^ b for a, b in zip(start, kind)))])
                led = kind_led(skin, arrows, kind)
                self.assertTrue(slow_is_good(skin, led))
                self.assertEqual(slow_kind(skin, led), kind)
                self.assertEqual(sum(a != b for a, b in zip(arrows, led)), number)
                self.assertIs(is_kind_led(skin, arrows, kind, led), True)
                self.assertIs(is_kind_led(skin, arrows, kind, list(led)), False)
            self.assertEqual(fewest_turned(skin, arrows, start), 0)
            self.assertEqual(kind_led(skin, arrows, start), arrows)

    def test_beside_all_good_arrows(self):
        rng = random.Random(247)
        for skin in even(small_ones(247, 4)):
            arrows, kind = drawn_good(rng, skin), drawn_class(rng, skin)
            told = [(sum(a != b for a, b in zip(arrows, own)), own) for own in slow_all_good(skin)]
            least = min(many for many, own in told if slow_kind(skin, own) == kind)
            self.assertEqual(fewest_turned(skin, arrows, kind), least)
            for many, own in sorted(told)[:9] + rng.sample(told, min(60, len(told))):
                wanted = slow_kind(skin, own) == kind and many == least
                self.assertIs(is_kind_led(skin, arrows, kind, own), wanted)
            for own in rng.sample(all_bits(2 * len(skin)), min(60, 4 ** len(skin))):
                if not slow_is_good(skin, own):
                    self.assertIs(is_kind_led(skin, arrows, kind, own), False)

    def test_turned_at_an_even_lot(self):
        rng = random.Random(248)
        for skin in even(many_skins(248)):
            arrows, lot = drawn_good(rng, skin), drawn_even_lot(rng, skin)
            turned = tuple(bit ^ (edge in lot) for edge, bit in enumerate(arrows))
            self.assertIs(are_good(skin, turned), True)
            together = put_together(skin, kind_of(skin, arrows), crossed(skin, lot))
            self.assertEqual(kind_of(skin, turned), together)

    def test_what_is_none(self):
        good = good_arrows(TWIN)
        for thing in odd_things() + [(0, 0, 0), (0, 1, 0, False), (0, 1, 0, 2), (0, 0, 0, 0), "0100", list(good), [good]]:
            self.assertIs(is_kind_led(TWIN, good, kind_of(TWIN, good), thing), False)
            self.assertEqual(raised(is_kind_led, TWIN, (0, 0, 0, 0), (0, 0), thing), (Unfit, {}))
            self.assertEqual(raised(is_kind_led, TWIN, good, (0,), thing), (Unfit, {}))
        self.assertIs(is_kind_led(TWIN, good, kind_of(TWIN, good), good), True)


class BoundsTest(unittest.TestCase):
    def test_3_and_4_handles(self):
        rng = random.Random(249)
        for many in (8, 12):
            skin = skin_with_handles(rng, many, 3)
            self.assertEqual(len(steps(skin)), 64)
            self.assertIs(are_step_rows(skin, step_rows(skin)), True)
        for many, handles in ((8, 4), (10, 4), (12, 6)):
            skin = skin_with_handles(rng, many, handles)
            good, kind = drawn_good(rng, skin), drawn_class(rng, skin)
            for function, given in (
                (step_rows, ()), (steps, ()), (are_step_rows, ((),)), (lot_of, (kind,)), (is_lot_of, (kind, ())),
                (fewest_turned, (good, kind)), (kind_led, (good, kind)), (is_kind_led, (good, kind, good)),
            ):
                self.assertEqual(raised(function, skin, *given), (TooMany, {}))
            # What is unfit, ahead of that; a thing never is.
            for function, given in (
                (lot_of, (kind[1:],)), (is_lot_of, (kind[1:], ())), (fewest_turned, (good, kind[1:])),
                (kind_led, (good[1:], kind)), (is_kind_led, (good, kind[1:], good)), (is_kind_led, (good[1:], kind, good)),
            ):
                self.assertEqual(raised(function, skin, *given), (Unfit, {}))
            self.assertEqual(raised(is_lot_of, skin, kind, None), (TooMany, {}))
            self.assertEqual(raised(is_kind_led, skin, good, kind, None), (TooMany, {}))

    def test_oddly_many_fields_have_no_good_arrows(self):
        for skin in (ONE, BALL_OF_ONE, ROW, ring_of(11)):
            kind, arrows = (0,) * (2 * slow_handles(skin)), (0,) * (2 * len(skin))
            for function, more in ((fewest_turned, ()), (kind_led, ()), (is_kind_led, (arrows,))):
                self.assertEqual(raised(function, skin, arrows, kind, *more), (Unfit, {}))
            self.assertEqual(lot_of(skin, kind), ())

    def test_without_handles(self):
        for skin in (PILLOW, BALL_OF_ONE, chain_of(7), chain_of(12)):
            self.assertEqual((steps(skin), lot_of(skin, ()), crossed(skin, (0,))), ((0,), (), ()))
            self.assertEqual(step_rows(skin), slow_step_rows(skin))
        self.assertEqual(kind_led(PILLOW, (0, 0, 0, 0), ()), (0, 0, 0, 0))

    def test_one_corner_alone(self):
        for skin in (ONE, PAIR, ROW, THREE):
            self.assertEqual(len(step_rows(skin)), 1)
            self.assertEqual(step_rows(skin), slow_step_rows(skin))
            # All EDGES end twice at the CORNER: each LOT is an EVEN LOT.
            self.assertIs(is_even_lot(skin, (1,)), True)


class RefusalsTest(unittest.TestCase):
    def test_no_lot(self):
        for bad in (None, 0, "0", (1, 0), (0, 0), (4,), (-1,), (True,), (0, True), ((0,),), {0: 0}, [[0]], (0, 1.0)):
            self.assertEqual(raised(crossed, TWIN, bad), (Unfit, {}))

    def test_no_kind(self):
        good = good_arrows(TWIN)
        for bad in (None, 0, "00", (), (0,), (0, 0, 0), (0, 2), (0, -1), (0, True), (0, None), [0, [1]], {0: 1, 1: 0}):
            self.assertEqual(raised(lot_of, TWIN, bad), (Unfit, {}))
            self.assertEqual(raised(is_lot_of, TWIN, bad, ()), (Unfit, {}))
            for function in (fewest_turned, kind_led):
                self.assertEqual(raised(function, TWIN, good, bad), (Unfit, {}))
            self.assertEqual(raised(is_kind_led, TWIN, good, bad, good), (Unfit, {}))

    def test_no_good_arrows(self):
        for bad in odd_things() + [(0, 0, 0, 0), (0, 1, 0), (0, 1, 0, False), (1, 1, 1, 1), "0100"]:
            for function in (fewest_turned, kind_led):
                self.assertEqual(raised(function, TWIN, bad, (0, 0)), (Unfit, {}))

    def test_no_skin(self):
        for bad in (None, 0, (), "skin", TWIN[:1], ring_of(12)[:11], (((0, 0),) * 4,), SIX[:5]):
            for function in (step_rows, steps):
                self.assertEqual(raised(function, bad), (Unfit, {}))
            for function in (crossed, is_even_lot, are_step_rows, lot_of):
                self.assertEqual(raised(function, bad, ()), (Unfit, {}))

    def test_handle_rings_cross_their_own_loops(self):
        for skin in (TWIN, FOUR, SIX):
            for at, ring in enumerate(slow_handle_rings(skin)):
                self.assertEqual(crossed(skin, slow_loops(skin)[at])[at], 1, ring)


if __name__ == "__main__":
    unittest.main()
