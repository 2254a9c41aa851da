"""[3], [18]: shares of classes, and of edges."""

import random
import unittest

from handlepairs.counts import sum_of, sum_with
from handlepairs.errors import NoEdge, TooMany, Unfit
from handlepairs.kinds import all_kinds
from handlepairs.marks import q_of_class
from handlepairs.rings import classes, put_together
from handlepairs.shares import edge_shares, is_shares, met_classes, share_of, shares, shares_with
from handlepairs.tables import paired_sum, sign_of, signed_table
from tests.drawn import BALL_OF_ONE, ONE, PILLOW, TWIN, as_lists, odd_things, raised, ring_of
from tests.shapes import (
    FOUR, QUAD, SIX, THREE, chain_of, drawn_class, drawn_pairing, drawn_worths, lacking, skin_with_handles, skin_with_pairing,
    with_pairings,
)
from tests.slow import all_bits, slow_class_of_lot, slow_handles, slow_joined, slow_pairings
from tests.slow_sums import slow_shares, slow_sum

ONES = (1, 1, 1, 1)


class SharesTest(unittest.TestCase):
    def test_beside_all_pairings(self):
        rng = random.Random(271)
        for skin in with_pairings(271):
            for _ in range(2):
                worths, pairing = drawn_worths(rng, skin), drawn_pairing(rng, skin)
                told = shares(skin, worths, pairing)
                self.assertEqual(told, slow_shares(skin, worths, pairing))
                self.assertEqual([one for one, _ in told], classes(skin))
                self.assertEqual(sum(share for _, share in told), sum_of(skin, worths))
                self.assertIs(is_shares(skin, worths, pairing, told), True)

    def test_by_the_paired_sums_of_all_kinds(self):
        """As the document tells it, nothing is left over."""
        rng = random.Random(272)
        for skin in with_pairings(272, 1, (0, 1, 2)):
            worths, pairing, one = drawn_worths(rng, skin), drawn_pairing(rng, skin), drawn_class(rng, skin)
            total = 0
            for arrows in all_kinds(skin):
                sign = -1 if q_of_class(skin, arrows, pairing, one) else 1
                total += sign * sign_of(skin, arrows, pairing) * paired_sum(signed_table(skin, arrows, worths))
            many = 4 ** slow_handles(skin)
            self.assertEqual(total % many, 0)
            self.assertEqual(share_of(skin, worths, pairing, one), total // many)

    def test_of_each_class(self):
        rng = random.Random(273)
        for skin in with_pairings(273):
            worths, pairing = drawn_worths(rng, skin), drawn_pairing(rng, skin)
            told = dict(slow_shares(skin, worths, pairing))
            for one in [drawn_class(rng, skin) for _ in range(3)]:
                self.assertEqual(share_of(skin, worths, pairing, one), told[one])
                self.assertEqual(share_of(as_lists(skin), list(worths), list(pairing), list(one)), told[one])

    def test_beside_another_pairing(self):
        rng = random.Random(274)
        for skin in with_pairings(274):
            worths, pairing, other = drawn_worths(rng, skin), drawn_pairing(rng, skin), drawn_pairing(rng, skin)
            between = slow_class_of_lot(skin, set(pairing) ^ set(other))
            told = dict(shares(skin, worths, pairing))
            for one, share in shares(skin, worths, other):
                self.assertEqual(share, told[put_together(skin, one, between)])

    def test_great_worths(self):
        rng = random.Random(275)
        for handles in (0, 1, 2, 3):
            skin = skin_with_pairing(rng, 12, handles)
            worths, pairing = (10 ** 6,) * 12 + (-10 ** 6,) * 12, drawn_pairing(rng, skin)
            self.assertEqual(shares(skin, worths, pairing), slow_shares(skin, worths, pairing))

    def test_without_handle(self):
        for skin in (PILLOW, chain_of(8)):
            worths = tuple(range(2 * len(skin)))
            for pairing in slow_pairings(skin):
                self.assertEqual(shares(skin, worths, pairing), (((), slow_sum(skin, worths)),))
                self.assertEqual(share_of(skin, worths, pairing, ()), slow_sum(skin, worths))
                self.assertEqual(met_classes(skin, pairing), ((),))


class IsSharesTest(unittest.TestCase):
    def test_one_number_else(self):
        rng = random.Random(276)
        for skin in with_pairings(276):
            worths, pairing = drawn_worths(rng, skin), drawn_pairing(rng, skin)
            told = shares(skin, worths, pairing)
            at = rng.randrange(len(told))
            one, share = told[at]
            for other in (
                (one, share + 1), (one, None), (one, str(share)), (one, (share,)), (one, float(share)), [one, share], (list(one), share),
                (one,), (one, share, 0), (one + (0,), share), (None, share), (share, one), one, (),
            ):
                self.assertIs(is_shares(skin, worths, pairing, told[:at] + (other,) + told[at + 1:]), False)
            for thing in (list(told), as_lists(told), told[:-1], told + told[-1:], told[::-1] if len(told) > 1 else (), ()):
                self.assertIs(is_shares(skin, worths, pairing, thing), False)

    def test_true_and_false_are_no_numbers(self):
        told = shares(TWIN, ONES, (0,))
        self.assertEqual(told, (((0, 0), 1), ((0, 1), 0), ((1, 0), 1), ((1, 1), 0)))
        for thing in (
            (((0, 0), True),) + told[1:], told[:1] + (((0, 1), False),) + told[2:], (((False, 0), 1),) + told[1:],
            told[:1] + (((0, True), 0),) + told[2:],
        ):
            self.assertEqual(thing, told)
            self.assertIs(is_shares(TWIN, ONES, (0,), thing), False)

    def test_whatever_else(self):
        for thing in odd_things():
            self.assertIs(is_shares(TWIN, ONES, (0,), thing), False)
            self.assertIs(is_shares(PILLOW, ONES, (0,), thing), False)
            self.assertEqual(raised(is_shares, TWIN, ONES, (1,), thing), (Unfit, {}))
            self.assertEqual(raised(is_shares, TWIN, ONES[1:], (0,), thing), (Unfit, {}))
            self.assertEqual(raised(is_shares, TWIN[:1], ONES, (0,), thing), (Unfit, {}))


class EdgesTest(unittest.TestCase):
    def test_shares_with_an_edge(self):
        rng = random.Random(277)
        for skin in with_pairings(277):
            worths, pairing = drawn_worths(rng, skin), drawn_pairing(rng, skin)
            for edge in rng.sample(range(2 * len(skin)), 3):
                told = shares_with(skin, worths, pairing, edge)
                self.assertEqual(told, slow_shares(skin, worths, pairing, lambda own: edge in own))
                self.assertEqual(sum(share for _, share in told), sum_with(skin, worths, edge))

    def test_an_edge_from_a_field_to_itself(self):
        for edge in (1, 3):
            self.assertEqual(shares_with(TWIN, (5, 7, 2, 3), (0,), edge), tuple((one, 0) for one in all_bits(2)))
        self.assertEqual(edge_shares(TWIN, (5, 7, 2, 3)), (5, 0, 2, 0))

    def test_edge_shares(self):
        rng = random.Random(278)
        for skin in with_pairings(278):
            worths = drawn_worths(rng, skin)
            told = edge_shares(skin, worths)
            self.assertIsInstance(told, tuple)
            wanted = [slow_sum(skin, worths, lambda own, at=edge: at in own) for edge in range(2 * len(skin))]
            self.assertEqual(told, tuple(wanted))
            whole = slow_sum(skin, worths)
            for field in range(len(skin)):
                own = [edge for edge in range(2 * len(skin)) if field in slow_joined(skin, edge)]
                self.assertEqual(sum(told[edge] for edge in own if len(set(slow_joined(skin, edge))) == 2), whole)

    def test_without_a_pairing(self):
        for skin in (ONE, BALL_OF_ONE, THREE, ring_of(3), chain_of(11), SIX, lacking((1, 1, 1, 1))):
            self.assertEqual(edge_shares(skin, (7,) * (2 * len(skin))), (0,) * (2 * len(skin)))
            for bad in ((), (0,), tuple(range(len(skin) // 2))):
                worths = (1,) * (2 * len(skin))
                self.assertEqual(raised(shares, skin, worths, bad), (Unfit, {}))
                self.assertEqual(raised(met_classes, skin, bad), (Unfit, {}))


class MetClassesTest(unittest.TestCase):
    def test_of_all_pairings(self):
        rng = random.Random(279)
        for skin in with_pairings(279, 2):
            pairing = drawn_pairing(rng, skin)
            told = met_classes(skin, pairing)
            self.assertIsInstance(told, tuple)
            wanted = {slow_class_of_lot(skin, set(own) ^ set(pairing)) for own in slow_pairings(skin)}
            self.assertEqual(told, tuple(sorted(wanted)))
            self.assertEqual(told[0], (0,) * (2 * slow_handles(skin)))

    def test_with_worths_1_shares_count(self):
        for skin in (TWIN, QUAD, FOUR):
            for pairing in slow_pairings(skin):
                told = shares(skin, (1,) * (2 * len(skin)), pairing)
                self.assertEqual(tuple(one for one, share in told if share), met_classes(skin, pairing))
                self.assertTrue(all(share >= 0 for _, share in told))
                self.assertEqual(sum(share for _, share in told), len(slow_pairings(skin)))


class RefusalsTest(unittest.TestCase):
    def test_more_than_3_handles(self):
        rng = random.Random(280)
        for many, handles in ((8, 4), (12, 4), (10, 5)):
            skin = skin_with_pairing(rng, many, handles)
            worths, pairing, one = drawn_worths(rng, skin), drawn_pairing(rng, skin), drawn_class(rng, skin)
            for function, given in (
                (shares, (worths, pairing)), (is_shares, (worths, pairing, ())), (share_of, (worths, pairing, one)),
                (shares_with, (worths, pairing, 0)), (edge_shares, (worths,)), (met_classes, (pairing,)),
            ):
                self.assertEqual(raised(function, skin, *given), (TooMany, {}))
                self.assertEqual(raised(function, skin, given[0][1:], *given[1:]), (Unfit, {}))
            self.assertEqual(raised(share_of, skin, worths, pairing, one[1:]), (Unfit, {}))
            self.assertEqual(raised(shares_with, skin, worths, pairing, -1), (NoEdge, {"edge": -1}))
            self.assertEqual(raised(shares_with, skin, worths, pairing, 2 * many), (NoEdge, {"edge": 2 * many}))
            self.assertEqual(raised(shares_with, skin, worths, pairing, None), (Unfit, {}))
        odd_one = skin_with_handles(rng, 9, 4)
        self.assertEqual(raised(edge_shares, odd_one, (1,) * 18), (TooMany, {}))
        for many in (11, 12):
            self.assertEqual(len(edge_shares(ring_of(many), (1,) * (2 * many))), 2 * many)

    def test_no_edge(self):
        for bad in (4, -1, 99, 10 ** 30):
            self.assertEqual(raised(shares_with, TWIN, ONES, (0,), bad), (NoEdge, {"edge": bad}))
            self.assertEqual(raised(shares_with, TWIN, ONES, (1,), bad), (Unfit, {}))
            self.assertEqual(raised(shares_with, TWIN, ONES[1:], (0,), bad), (Unfit, {}))
        for bad in (None, True, False, "0", (0,), 0.0):
            self.assertEqual(raised(shares_with, TWIN, ONES, (0,), bad), (Unfit, {}))

    def test_no_worths(self):
        for bad in (None, 0, "1111", (), (1, 1, 1), (1,) * 5, (1, 1, 1, True), (1, 1, 1, None), ((1,),) * 4, {0: 1}, [1, 1, 1, [1]]):
            self.assertEqual(raised(shares, TWIN, bad, (0,)), (Unfit, {}))
            self.assertEqual(raised(share_of, TWIN, bad, (0,), (0, 0)), (Unfit, {}))
            self.assertEqual(raised(edge_shares, TWIN, bad), (Unfit, {}))
            self.assertEqual(raised(shares_with, TWIN, bad, (0,), 99), (Unfit, {}))

    def test_no_pairing_and_no_class(self):
        for bad in odd_things() + [(1,), (4,), (0, 2), (True,), ((0,),), (False,)]:
            self.assertEqual(raised(shares, TWIN, ONES, bad), (Unfit, {}))
            self.assertEqual(raised(share_of, TWIN, ONES, bad, (0, 0)), (Unfit, {}))
            self.assertEqual(raised(met_classes, TWIN, bad), (Unfit, {}))
        for bad in (None, 0, "00", (), (0,), (0, 0, 0), (0, 2), (0, -1), (0, True), (0, None), [0, [1]], {0: 1, 1: 0}):
            self.assertEqual(raised(share_of, TWIN, ONES, (0,), bad), (Unfit, {}))

    def test_no_skin(self):
        for bad in (None, 0, (), "skin", TWIN[:1], ring_of(12)[:11], (((0, 0),) * 4,)):
            self.assertEqual(raised(shares, bad, ONES, (0,)), (Unfit, {}))
            self.assertEqual(raised(edge_shares, bad, ONES), (Unfit, {}))
            self.assertEqual(raised(met_classes, bad, (0,)), (Unfit, {}))


if __name__ == "__main__":
    unittest.main()
