"""[3], [10]: kinds of arrows."""

import itertools
import random
import unittest

from handlepairs.arrows import are_good, good_arrows, good_at, many_good, turned_lot
from handlepairs.errors import CanNot, Odd, TooMany, Unfit
from handlepairs.kinds import (
    all_kinds, all_turned, are_akin, arrows_of, fields_between, kind_of, many_kinds, turned_at, unlike_ring,
)
from handlepairs.trees import loops
from tests.drawn import BALL_OF_ONE, ONE, PAIR, PILLOW, TWIN, drawn_skin, odd_things, raised, ring_of, small_skins
from tests.shapes import (
    BAND, FOUR, QUAD, ROW, chain_of, drawn_arrows, drawn_class, drawn_fields, drawn_ring, even, many_skins, odd,
    skin_with_handles,
)
from tests.slow import (
    all_bits, slow_against, slow_all_good, slow_handles, slow_is_good, slow_joined, slow_kind, slow_turned_at,
)


def all_sets(skin):
    """All sets of FIELDS, those of fewer ahead, then ascending."""
    return [own for many in range(len(skin) + 1) for own in itertools.combinations(range(len(skin)), many)]


class KindTest(unittest.TestCase):
    def test_of_arrows_good_or_not(self):
        rng = random.Random(101)
        for skin in many_skins(101, 4):
            for _ in range(4):
                arrows = drawn_arrows(rng, skin)
                self.assertEqual(kind_of(skin, arrows), slow_kind(skin, arrows))
            self.assertEqual(len(kind_of(skin, arrows)), 2 * slow_handles(skin))
        for skin in (PILLOW, BALL_OF_ONE, chain_of(12)):
            self.assertEqual(kind_of(skin, drawn_arrows(rng, skin)), ())

    def test_turned_at_a_loop_one_bit_is_turned(self):
        rng = random.Random(102)
        for skin in even(many_skins(102)):
            good = good_at(skin, rng.randrange(many_good(skin)))
            for at, loop in enumerate(loops(skin)):
                told = turned_lot(skin, good, loop)
                self.assertIs(are_good(skin, told), True)
                apart = [place for place, (one, other) in enumerate(zip(kind_of(skin, good), kind_of(skin, told)))
                         if one != other]
                self.assertEqual(apart, [at])


class TurnedTest(unittest.TestCase):
    def test_field_by_field(self):
        rng = random.Random(103)
        for skin in many_skins(103, 3):
            for _ in range(3):
                arrows, fields = drawn_arrows(rng, skin), drawn_fields(rng, skin)
                told = turned_at(skin, arrows, fields)
                self.assertEqual(told, slow_turned_at(skin, arrows, fields))
                self.assertEqual(turned_at(skin, told, fields), arrows)
            self.assertEqual(turned_at(skin, arrows, ()), arrows)
            self.assertEqual(turned_at(skin, arrows, tuple(range(len(skin)))), arrows)

    def test_an_edge_from_a_field_to_itself_stays(self):
        for skin in (ONE, BALL_OF_ONE):
            for arrows in all_bits(2):
                self.assertEqual(turned_at(skin, arrows, (0,)), arrows)
        self.assertEqual(turned_at(TWIN, (0, 0, 0, 0), (1,)), (1, 0, 1, 0))

    def test_against_of_rings_stays(self):
        rng = random.Random(104)
        for skin in many_skins(104):
            arrows, fields, ring = drawn_arrows(rng, skin), drawn_fields(rng, skin), drawn_ring(rng, skin)
            told = turned_at(skin, arrows, fields)
            self.assertEqual((slow_against(skin, told, ring) - slow_against(skin, arrows, ring)) % 2, 0)
            self.assertEqual(kind_of(skin, told), kind_of(skin, arrows))
            self.assertIs(are_good(skin, told), are_good(skin, arrows))

    def test_all_of_them(self):
        rng = random.Random(105)
        for skin in [own for own in many_skins(105, 1) if len(own) <= 7]:
            arrows = drawn_arrows(rng, skin)
            told = all_turned(skin, arrows)
            self.assertIsInstance(told, list)
            self.assertEqual(told, sorted({slow_turned_at(skin, arrows, own) for own in all_sets(skin)}))
            self.assertEqual(len(told), 2 ** (len(skin) - 1))
            self.assertIn(arrows, told)

    def test_ten_fields_and_more(self):
        rng = random.Random(106)
        for many in (10, 11, 12):
            for crossings in (0, 3, 40):
                skin = drawn_skin(rng, many, crossings)
                arrows = drawn_arrows(rng, skin)
                if many > 10:
                    self.assertEqual(raised(all_turned, skin, arrows), (TooMany, {}))
                    self.assertEqual(raised(all_turned, skin, arrows[:-1]), (Unfit, {}))
                else:
                    told = all_turned(skin, arrows)
                    self.assertEqual(len(told), 512)
                    self.assertEqual(told, sorted(set(told)))
                    for own in rng.sample(told, 20):
                        self.assertIs(are_akin(skin, own, arrows), True)


class BetweenTest(unittest.TestCase):
    def test_the_fewest_fields_the_least_of_these(self):
        rng = random.Random(107)
        for skin in [own for own in list(small_skins()) + many_skins(107, 3) if len(own) <= 7]:
            arrows = drawn_arrows(rng, skin)
            other = slow_turned_at(skin, arrows, drawn_fields(rng, skin))
            wanted = next(own for own in all_sets(skin) if slow_turned_at(skin, arrows, own) == other)
            self.assertEqual(fields_between(skin, arrows, other), wanted)
            self.assertIs(are_akin(skin, arrows, other), True)
            self.assertEqual(fields_between(skin, arrows, arrows), ())

    def test_half_of_the_fields(self):
        for skin in (TWIN, PILLOW, QUAD, BAND):
            half = len(skin) // 2
            for arrows in slow_all_good(skin)[:8]:
                for fields in itertools.combinations(range(len(skin)), half):
                    others = tuple(own for own in range(len(skin)) if own not in fields)
                    told = fields_between(skin, arrows, slow_turned_at(skin, arrows, fields))
                    self.assertEqual(told, min(fields, others))

    def test_whatever_arrows(self):
        for skin in list(small_skins())[::5] + [ROW, PAIR]:
            rows = all_bits(2 * len(skin))
            arrows = rows[len(rows) // 3]
            turned = {slow_turned_at(skin, arrows, own) for own in all_sets(skin)}
            for other in rows:
                self.assertIs(are_akin(skin, arrows, other), other in turned)
                if other not in turned:
                    self.assertEqual(raised(fields_between, skin, arrows, other), (CanNot, {}))

    def test_twelve_fields(self):
        rng = random.Random(108)
        for crossings in (0, 2, 40):
            skin = drawn_skin(rng, 12, crossings)
            arrows, fields = drawn_arrows(rng, skin), drawn_fields(rng, skin)
            others = tuple(own for own in range(12) if own not in fields)
            wanted = min((len(own), own) for own in (fields, others))[1]
            self.assertEqual(fields_between(skin, arrows, slow_turned_at(skin, arrows, fields)), wanted)

    def test_an_edge_from_a_field_to_itself_turned_alone(self):
        for arrows in all_bits(4):
            self.assertIs(are_akin(TWIN, arrows, turned_lot(TWIN, arrows, (1,))), False)
            self.assertEqual(raised(fields_between, TWIN, arrows, turned_lot(TWIN, arrows, (3,))), (CanNot, {}))

    def test_good_ones_are_akin_exactly_if_of_one_kind(self):
        rng = random.Random(109)
        for skin in even(many_skins(109, 4)):
            one = good_at(skin, rng.randrange(many_good(skin)))
            for other in [good_at(skin, rng.randrange(many_good(skin))) for _ in range(4)] + [one] + (
                [slow_turned_at(skin, one, drawn_fields(rng, skin))]
            ):
                kinds = slow_kind(skin, one), slow_kind(skin, other)
                self.assertIs(are_akin(skin, one, other), kinds[0] == kinds[1])
                if kinds[0] == kinds[1]:
                    self.assertEqual(raised(unlike_ring, skin, one, other), (CanNot, {}))
                    fields = fields_between(skin, one, other)
                    self.assertEqual(slow_turned_at(skin, one, fields), other)
                else:
                    least = next(at for at in range(len(kinds[0])) if kinds[0][at] != kinds[1][at])
                    self.assertEqual(unlike_ring(skin, one, other), least)
                    self.assertEqual(raised(fields_between, skin, one, other), (CanNot, {}))

    def test_unlike_ring_asks_for_good_ones(self):
        good = good_arrows(TWIN)
        bad = (0, 0, 0, 0)
        self.assertEqual(raised(unlike_ring, TWIN, good, bad), (Unfit, {}))
        self.assertEqual(raised(unlike_ring, TWIN, bad, good), (Unfit, {}))
        self.assertEqual(raised(unlike_ring, TWIN, bad, bad), (Unfit, {}))
        for skin in odd(many_skins(110)):
            arrows = (0,) * (2 * len(skin))
            self.assertEqual(raised(unlike_ring, skin, arrows, arrows), (Unfit, {}))


class KindsTest(unittest.TestCase):
    def test_arrows_of_each_kind(self):
        rng = random.Random(111)
        for skin in even(many_skins(111)):
            handles = slow_handles(skin)
            kinds = all_bits(2 * handles) if handles <= 2 else [drawn_class(rng, skin) for _ in range(5)]
            for kind in kinds:
                told = arrows_of(skin, kind)
                self.assertIsInstance(told, tuple)
                self.assertIs(slow_is_good(skin, told), True)
                self.assertEqual(slow_kind(skin, told), kind)
                self.assertEqual(arrows_of(skin, list(kind)), told)

    def test_one_of_each_kind(self):
        rng = random.Random(112)
        for many, handles in ((2, 0), (2, 1), (4, 2), (6, 3), (8, 3), (12, 3), (12, 0)):
            skin = skin_with_handles(rng, many, handles)
            told = all_kinds(skin)
            self.assertIsInstance(told, list)
            self.assertEqual([slow_kind(skin, own) for own in told], all_bits(2 * handles))
            self.assertTrue(all(slow_is_good(skin, own) for own in told))
            self.assertEqual(many_kinds(skin), len(told))
        self.assertEqual(len(all_kinds(FOUR)), 16)

    def test_too_many_handles(self):
        rng = random.Random(113)
        for many, handles in ((8, 4), (12, 4), (12, 6)):
            skin = skin_with_handles(rng, many, handles)
            self.assertEqual(raised(all_kinds, skin), (TooMany, {}))
            kind = drawn_class(rng, skin)
            self.assertEqual(slow_kind(skin, arrows_of(skin, kind)), kind)
            self.assertEqual(many_kinds(skin), 4 ** handles)

    def test_odd_ahead_of_too_many(self):
        rng = random.Random(114)
        for many, handles in ((1, 0), (1, 1), (3, 2), (7, 3), (7, 4), (9, 5), (11, 6)):
            skin = skin_with_handles(rng, many, handles)
            self.assertEqual(raised(all_kinds, skin), (Odd, {}))
            kind = drawn_class(rng, skin)
            self.assertEqual(raised(arrows_of, skin, kind), (Odd, {}))
            self.assertEqual(raised(arrows_of, skin, kind + (0,)), (Unfit, {}))
            self.assertEqual(many_kinds(skin), 4 ** handles)

    def test_good_ones_fall_into_kinds_of_one_size(self):
        for skin in (TWIN, QUAD, BAND, PILLOW, chain_of(4)):
            kinds = [slow_kind(skin, own) for own in slow_all_good(skin)]
            for kind in all_bits(2 * slow_handles(skin)):
                self.assertEqual(kinds.count(kind), 2 ** (len(skin) - 1))


class RefusalsTest(unittest.TestCase):
    def test_what_are_no_arrows(self):
        good = good_arrows(TWIN)
        for bad in odd_things() + [(0, 0, 0), (0, 0, 0, 2), (0, 0, 0, True), (-1, 0, 0, 0), "0000", [0, 0, 0, [0]]]:
            for function in (kind_of, all_turned):
                self.assertEqual(raised(function, TWIN, bad), (Unfit, {}))
                self.assertEqual(raised(function, TWIN[:1], bad), (Unfit, {}))
            for function in (fields_between, are_akin, unlike_ring):
                self.assertEqual(raised(function, TWIN, bad, good), (Unfit, {}))
                self.assertEqual(raised(function, TWIN, good, bad), (Unfit, {}))
                self.assertEqual(raised(function, TWIN[:1], good, good), (Unfit, {}))
            self.assertEqual(raised(turned_at, TWIN, bad, (0,)), (Unfit, {}))

    def test_what_is_no_set_of_fields(self):
        for skin in (TWIN, PILLOW, ring_of(12)):
            arrows = (0,) * (2 * len(skin))
            for bad in (
                None, 0, "0", (1, 0), (0, 0), (-1,), (len(skin),), (0, len(skin)), (True,), (0, True), ((0,),), {0: 1}, (0, "1"),
                [[0]],
            ):
                self.assertEqual(raised(turned_at, skin, arrows, bad), (Unfit, {}))
            last = (len(skin) - 1,)
            self.assertEqual(turned_at(skin, arrows, last), slow_turned_at(skin, arrows, last))

    def test_what_is_no_kind(self):
        for bad in (None, 0, "00", (), (0,), (0, 0, 0), (0, 2), (-1, 0), (0, True), (0, None), [0, [1]]):
            self.assertEqual(raised(arrows_of, TWIN, bad), (Unfit, {}))
            self.assertEqual(raised(arrows_of, TWIN[:1], bad), (Unfit, {}))
        self.assertEqual(raised(arrows_of, PILLOW, (0,)), (Unfit, {}))
        self.assertEqual(kind_of(PILLOW, arrows_of(PILLOW, ())), ())

    def test_an_edge_joins_what_is_told(self):
        # What the slow way above rests on.
        self.assertEqual([slow_joined(TWIN, edge) for edge in range(4)], [(0, 1), (0, 0), (0, 1), (1, 1)])


if __name__ == "__main__":
    unittest.main()
