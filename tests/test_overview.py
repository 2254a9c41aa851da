"""[1]: what is promised over the whole program, over many drawn skins, arrows, worths and pairings."""

import random
import unittest

from handlepairs.arrows import are_good, good_arrows, good_at, many_good, odd_reason
from handlepairs.corners import handles
from handlepairs.counts import how_many, parts, sum_of
from handlepairs.desk import Desk
from handlepairs.errors import Odd
from handlepairs.judge import is_paper_against, is_reason_for, is_so, paper_against, reason_for
from handlepairs.kinds import all_kinds, are_akin, arrows_of, fields_between, kind_of, many_kinds, turned_at, unlike_ring
from handlepairs.marks import mark, mark_by_pairs, mark_moved, marks, q_of_class
from handlepairs.numbered import pairing_at, pairing_number, pairings_from
from handlepairs.pairings import all_pairings, class_between, some_pairing
from handlepairs.shares import shares
from handlepairs.tables import paired_sum, sign_of, signed_table
from handlepairs.texts import read_sheet, sheet_text
from handlepairs.turns import fewest_turned, is_kind_led, kind_led
from tests.drawn import raised
from tests.shapes import (
    chain_of, drawn_class, drawn_fields, drawn_lot, drawn_pairing, drawn_worths, even, many_skins, odd, with_pairings,
)
from tests.slow import slow_handles, slow_pairings
from tests.slow_sums import slow_shares, slow_sum


def drawn_good(rng, skin):
    return good_at(skin, rng.randrange(many_good(skin)))


class OverviewTest(unittest.TestCase):
    def test_a_good_arrows_exactly_for_evenly_many_fields(self):
        for skin in even(many_skins(351)):
            self.assertIs(are_good(skin, good_arrows(skin)), True)
            self.assertGreater(many_good(skin), 0)
        for skin in odd(many_skins(351)):
            self.assertEqual(raised(good_arrows, skin), (Odd, {}))
            self.assertEqual(many_good(skin), 0)
            corners, edges = odd_reason(skin)
            self.assertEqual((corners % 2, edges % 2), (1, 0))

    def test_a_one_from_another_by_fields_turned_exactly_if_kinds_are_alike(self):
        rng = random.Random(352)
        for skin in even(many_skins(352)):
            arrows, other = drawn_good(rng, skin), drawn_good(rng, skin)
            for far in (other, turned_at(skin, arrows, drawn_fields(rng, skin))):
                alike = kind_of(skin, arrows) == kind_of(skin, far)
                self.assertIs(are_akin(skin, arrows, far), alike)
                if alike:
                    self.assertEqual(turned_at(skin, arrows, fields_between(skin, arrows, far)), far)
                else:
                    at = unlike_ring(skin, arrows, far)
                    self.assertNotEqual(kind_of(skin, arrows)[at], kind_of(skin, far)[at])

    def test_b_all_worths_by_the_paired_sums_of_all_kinds(self):
        rng = random.Random(353)
        for skin in with_pairings(353, 2):
            worths, pairing = drawn_worths(rng, skin), drawn_pairing(rng, skin)
            total = sum(
                mark(skin, arrows, pairing) * sign_of(skin, arrows, pairing) * paired_sum(signed_table(skin, arrows, worths))
                for arrows in all_kinds(skin)
            )
            self.assertEqual(total % 2 ** handles(skin), 0)
            self.assertEqual(total // 2 ** handles(skin), slow_sum(skin, worths))
            self.assertEqual(sum_of(skin, worths), slow_sum(skin, worths))
            self.assertEqual(sum(parts(skin, worths, pairing)), total)
            self.assertEqual(many_kinds(skin), 4 ** handles(skin))

    def test_b_0_where_there_is_no_pairing(self):
        rng = random.Random(354)
        for skin in many_skins(354):
            if not slow_pairings(skin) and slow_handles(skin) <= 3:
                self.assertEqual((sum_of(skin, drawn_worths(rng, skin)), how_many(skin)), (0, 0))
                if len(skin) % 2 == 0:
                    for arrows in all_kinds(skin)[:4]:
                        self.assertEqual(paired_sum(signed_table(skin, arrows, drawn_worths(rng, skin))), 0)

    def test_c_the_worths_of_each_class(self):
        rng = random.Random(355)
        for skin in with_pairings(355):
            worths, pairing = drawn_worths(rng, skin), drawn_pairing(rng, skin)
            signed = [
                (arrows, sign_of(skin, arrows, pairing) * paired_sum(signed_table(skin, arrows, worths)))
                for arrows in all_kinds(skin)
            ]
            wanted = slow_shares(skin, worths, pairing)
            self.assertEqual(shares(skin, worths, pairing), wanted)
            one, share = rng.choice(wanted)
            total = sum(-own if q_of_class(skin, arrows, pairing, one) else own for arrows, own in signed)
            self.assertEqual(total, share * 4 ** handles(skin))

    def test_d_the_sign_beside_that_of_another_one(self):
        rng = random.Random(356)
        for skin in with_pairings(356):
            arrows, pairing, other = drawn_good(rng, skin), drawn_pairing(rng, skin), drawn_pairing(rng, skin)
            q = q_of_class(skin, arrows, pairing, class_between(skin, pairing, other))
            self.assertEqual(sign_of(skin, arrows, pairing) * sign_of(skin, arrows, other), -1 if q else 1)

    def test_d_marks_in_four_ways(self):
        rng = random.Random(357)
        for skin in with_pairings(357):
            arrows, pairing, kind = drawn_good(rng, skin), drawn_pairing(rng, skin), drawn_class(rng, skin)
            own = arrows_of(skin, kind)
            at = int("".join(map(str, kind)) or "0", 2)
            told = {
                mark(skin, own, pairing), mark_by_pairs(skin, own, pairing), mark_moved(skin, arrows, pairing, kind),
                marks(skin, pairing)[at],
            }
            self.assertEqual(len(told), 1)

    def test_d_fewest_arrows_judged_both_ways(self):
        rng = random.Random(358)
        for skin in with_pairings(358):
            arrows, kind = drawn_good(rng, skin), drawn_class(rng, skin)
            led = kind_led(skin, arrows, kind)
            many = fewest_turned(skin, arrows, kind)
            self.assertEqual(sum(a != b for a, b in zip(arrows, led)), many)
            self.assertIs(is_kind_led(skin, arrows, kind, led), True)
            between = tuple(a ^ b for a, b in zip(kind, kind_of(skin, arrows)))
            lot = tuple(edge for edge in range(len(led)) if led[edge] != arrows[edge])
            demand = ("steps", skin, between, many)
            self.assertIs(is_so(demand), True)
            self.assertIs(is_reason_for(demand, lot), True)
            if many:
                fewer = ("steps", skin, between, many - 1)
                self.assertIs(is_so(fewer), False)
                self.assertIs(is_paper_against(fewer, paper_against(fewer)), True)

    def test_d_texts_a_judge_and_a_desk(self):
        rng = random.Random(359)
        for skin in with_pairings(359):
            worths, arrows = drawn_worths(rng, skin), drawn_good(rng, skin)
            sheet = (skin, (worths,), (arrows,), (drawn_lot(rng, skin), some_pairing(skin)))
            own, (own_worths,), (own_arrows,), (_, pairing) = read_sheet(sheet_text(sheet))
            demand = ("sum", own, own_worths, sum_of(skin, worths))
            self.assertEqual(reason_for(demand), parts(skin, worths, drawn_pairing(rng, skin)))
            desk = Desk(own, own_arrows)
            fields = drawn_fields(rng, skin)
            for field in fields:
                self.assertEqual(desk.say(f"turn {field}\nbad"), ("done", "none"))
            self.assertIs(is_so(("led", skin, arrows, desk.arrows())), True)
            self.assertEqual(desk.arrows(), turned_at(skin, arrows, fields))
            self.assertEqual(desk.say("kind")[0], " ".join(map(str, kind_of(skin, arrows))) or "none")

    def test_pairings_are_numbered_by_counts_alone(self):
        rng = random.Random(360)
        for skin in with_pairings(360):
            told = slow_pairings(skin)
            self.assertEqual(how_many(skin), len(told))
            number = rng.randrange(len(told))
            self.assertEqual(pairing_at(skin, number), told[number])
            self.assertEqual(pairing_number(skin, told[number]), number)
            if len(skin) <= 6:
                self.assertEqual(pairings_from(skin, 0, 100), all_pairings(skin)[:100])

    def test_of_12_fields_without_handles(self):
        skin = chain_of(12)
        self.assertEqual(how_many(skin), len(slow_pairings(skin)))
        self.assertEqual(parts(skin, (1,) * 24, some_pairing(skin)), (len(slow_pairings(skin)),))


if __name__ == "__main__":
    unittest.main()
