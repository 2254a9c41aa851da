"""[3], [13]: q of classes, marks."""

import random
import unittest

from handlepairs.arrows import good_arrows, good_at, many_good
from handlepairs.errors import TooMany, Unfit
from handlepairs.kinds import all_kinds, arrows_of
from handlepairs.marks import (
    class_moved, is_paired_classes, mark, mark_by_pairs, mark_moved, marks, marks_one, paired_classes, q_of_class, q_row,
)
from handlepairs.meetings import meetings
from handlepairs.pairings import class_between
from handlepairs.rings import put_together
from tests.drawn import BALL_OF_ONE, ONE, PILLOW, TWIN, odd_things, raised, ring_of
from tests.shapes import (
    FOUR, SIX, chain_of, drawn_arrows, drawn_class, drawn_pairing, many_skins, skin_with_handles, skin_with_pairing,
    with_pairings,
)
from tests.slow import (
    all_bits, slow_class_of_ring, slow_handles, slow_kind, slow_pairings, slow_q_of_ring, slow_sign, slow_simple_rings,
)
from tests.slow_sums import slow_mark, slow_q


class QTest(unittest.TestCase):
    def test_of_classes(self):
        rng = random.Random(181)
        for skin in with_pairings(181) + [skin_with_pairing(rng, 8, 4)]:
            for _ in range(3):
                arrows, pairing, one = drawn_arrows(rng, skin), drawn_pairing(rng, skin), drawn_class(rng, skin)
                told = q_of_class(skin, arrows, pairing, one)
                self.assertEqual(told, slow_q(skin, arrows, pairing, one))
                other = drawn_class(rng, skin)
                both = q_of_class(skin, arrows, pairing, other) + meetings(skin, one, other) + told
                self.assertEqual(q_of_class(skin, arrows, pairing, put_together(skin, one, other)), both % 2)

    def test_is_that_of_simple_rings_by_good_arrows(self):
        rng = random.Random(182)
        for skin in [own for own in with_pairings(182, 2) if len(own) <= 6]:
            arrows, pairing = good_at(skin, rng.randrange(many_good(skin))), drawn_pairing(rng, skin)
            for ring in rng.sample(slow_simple_rings(skin), min(20, len(slow_simple_rings(skin)))):
                one = slow_class_of_ring(skin, ring)
                self.assertEqual(q_of_class(skin, arrows, pairing, one), slow_q_of_ring(skin, arrows, pairing, ring))

    def test_rows(self):
        rng = random.Random(183)
        for skin in with_pairings(183):
            arrows, pairing = drawn_arrows(rng, skin), drawn_pairing(rng, skin)
            row = q_row(skin, arrows, pairing)
            self.assertIsInstance(row, tuple)
            handles = slow_handles(skin)
            told = all_bits(2 * handles)
            self.assertEqual(len(row), len(told))
            for at in rng.sample(range(len(told)), min(8, len(told))):
                self.assertEqual(row[at], slow_q(skin, arrows, pairing, told[at]))
            sign = mark(skin, arrows, pairing)
            self.assertEqual(2 * row.count(0), 2 ** handles * (2 ** handles + sign))


class MarkTest(unittest.TestCase):
    def test_of_good_arrows_and_of_others(self):
        rng = random.Random(184)
        for skin in with_pairings(184):
            for arrows in (drawn_arrows(rng, skin), good_at(skin, rng.randrange(many_good(skin)))):
                pairing = drawn_pairing(rng, skin)
                wanted = slow_mark(skin, arrows, pairing)
                self.assertEqual(mark(skin, arrows, pairing), wanted)
                self.assertEqual(mark_by_pairs(skin, arrows, pairing), wanted)

    def test_without_handle(self):
        for skin in (PILLOW, chain_of(8)):
            for pairing in slow_pairings(skin):
                arrows = good_arrows(skin)
                self.assertEqual(q_row(skin, arrows, pairing), (0,))
                self.assertEqual(mark(skin, arrows, pairing), 1)
                self.assertEqual(mark_by_pairs(skin, arrows, pairing), 1)
                self.assertEqual(mark_moved(skin, arrows, pairing, ()), 1)
                self.assertEqual(marks(skin, pairing), (1,))
            self.assertEqual((marks_one(skin), paired_classes(skin), class_moved(skin, (), ())), (1, (), ()))

    def test_mark_times_sign_stays(self):
        rng = random.Random(185)
        for skin in with_pairings(185):
            arrows = good_at(skin, rng.randrange(many_good(skin)))
            told = {
                mark(skin, arrows, pairing) * slow_sign(skin, arrows, pairing)
                for pairing in [drawn_pairing(rng, skin) for _ in range(4)]
            }
            self.assertEqual(len(told), 1)

    def test_the_sign_beside_another_pairing_is_told_by_q_of_the_class_between(self):
        rng = random.Random(186)
        for skin in with_pairings(186):
            arrows = good_at(skin, rng.randrange(many_good(skin)))
            pairing, other = drawn_pairing(rng, skin), drawn_pairing(rng, skin)
            q = q_of_class(skin, arrows, pairing, class_between(skin, pairing, other))
            signs = slow_sign(skin, arrows, pairing) * slow_sign(skin, arrows, other)
            self.assertEqual(signs, -1 if q else 1)

    def test_of_all_kinds_they_tell_each_pairing_alike(self):
        rng = random.Random(187)
        for skin in with_pairings(187):
            pairing, other = drawn_pairing(rng, skin), drawn_pairing(rng, skin)
            total = sum(
                sign * slow_sign(skin, arrows, pairing) * slow_sign(skin, arrows, other)
                for sign, arrows in zip(marks(skin, pairing), all_kinds(skin))
            )
            self.assertEqual(total, 2 ** slow_handles(skin))

    def test_many_handles(self):
        rng = random.Random(188)
        for many, handles in ((8, 4), (10, 4), (10, 5), (12, 6)):
            skin = skin_with_pairing(rng, many, handles)
            arrows, pairing = good_at(skin, rng.randrange(many_good(skin))), drawn_pairing(rng, skin)
            for function in (mark, q_row):
                self.assertEqual(raised(function, skin, arrows, pairing), (TooMany, {}))
                self.assertEqual(raised(function, skin, arrows, pairing[1:]), (Unfit, {}))
                self.assertEqual(raised(function, skin, arrows[1:], pairing), (Unfit, {}))
            self.assertEqual(raised(marks, skin, pairing), (TooMany, {}))
            self.assertEqual(raised(marks, skin, pairing[1:]), (Unfit, {}))
            self.assertEqual(marks_one(skin), 2 ** (handles - 1) * (2 ** handles + 1))
            other = drawn_pairing(rng, skin)
            signs = slow_sign(skin, arrows, pairing) * slow_sign(skin, arrows, other)
            told = mark_by_pairs(skin, arrows, pairing)
            self.assertEqual(mark_by_pairs(skin, arrows, other), told * signs)
            if handles == 4:
                self.assertEqual(told, slow_mark_by_rows(skin, arrows, pairing))


def slow_mark_by_rows(skin, arrows, pairing):
    """The MARK by q of all CLASSES, asked one by one."""
    row = [q_of_class(skin, arrows, pairing, one) for one in all_bits(2 * slow_handles(skin))]
    return 1 if row.count(0) > row.count(1) else -1


class PairedTest(unittest.TestCase):
    def test_paired_classes(self):
        for skin in many_skins(189, 3):
            told = paired_classes(skin)
            self.assertIsInstance(told, tuple)
            self.assertEqual(len(told), slow_handles(skin))
            self.assertIs(is_paired_classes(skin, told), True)
            row = [one for pair in told for one in pair]
            for at, one in enumerate(row):
                for far, other in enumerate(row):
                    wanted = int(at != far and at // 2 == far // 2)
                    self.assertEqual(meetings(skin, one, other), wanted)
            self.assertEqual(paired_classes([list(own) for own in skin]), told)

    def test_by_whichever_the_mark_is_one(self):
        rng = random.Random(190)
        for skin in with_pairings(190, 1, (1, 2, 3)):
            arrows, pairing = drawn_arrows(rng, skin), drawn_pairing(rng, skin)
            for pairs in exchanged_pairs(rng, skin):
                self.assertIs(is_paired_classes(skin, pairs), True)
                total = sum(
                    q_of_class(skin, arrows, pairing, one) * q_of_class(skin, arrows, pairing, other)
                    for one, other in pairs
                )
                self.assertEqual(-1 if total % 2 else 1, mark_by_pairs(skin, arrows, pairing))

    def test_all_pairs_of_one_handle(self):
        for one in all_bits(2):
            for other in all_bits(2):
                wanted = (0, 0) not in (one, other) and one != other
                self.assertIs(is_paired_classes(TWIN, ((one, other),)), wanted)
                self.assertIs(is_paired_classes(ONE, ((one, other),)), wanted)

    def test_not_paired_ones(self):
        rng = random.Random(191)
        skin = FOUR
        pairs = paired_classes(skin)
        (a, b), (c, d) = pairs
        for thing in (
            ((a, c), (b, d)), ((a, b), (a, b)), ((a, b), (c, c)), ((a, b),), pairs + pairs, pairs + ((a, b),), ((a, b, c, d),),
            (a, b, c, d), list(pairs), [[a, b], [c, d]], ((a, b), [c, d]), ((a, b), (c, list(d))), ((a, b), (c,)),
            ((a, b), (c, d[:-1])), ((a, b), (c, d + (0,))), ((a, b), (c, d, d)), ((a, b), (c, None)), (None, (c, d)),
            ((a, b), (c, (True,) + d[1:])), ((a, b), (c, (2,) + d[1:])), ((a, b), (c, put_together(skin, d, a))),
        ):
            self.assertIs(is_paired_classes(skin, thing), False)
        for thing in (((b, a), (c, d)), ((c, d), (a, b)), ((a, b), (put_together(skin, c, d), d))):
            self.assertIs(is_paired_classes(skin, thing), True)
        for _ in range(50):
            thing = tuple((drawn_class(rng, skin), drawn_class(rng, skin)) for _ in range(2))
            self.assertIs(is_paired_classes(skin, thing), slow_paired(skin, thing))

    def test_whatever_else(self):
        for thing in odd_things():
            self.assertIs(is_paired_classes(TWIN, thing), False)
            self.assertIs(is_paired_classes(PILLOW, thing), isinstance(thing, tuple) and thing == ())
            self.assertEqual(raised(is_paired_classes, TWIN[:1], thing), (Unfit, {}))


def slow_paired(skin, pairs):
    row = [one for pair in pairs for one in pair]
    return all(
        meetings(skin, one, other) == (at != far and at // 2 == far // 2)
        for at, one in enumerate(row) for far, other in enumerate(row)
    )


def exchanged_pairs(rng, skin):
    """Some more paired CLASSES, made of those that are told."""
    pairs = list(paired_classes(skin))
    for _ in range(4):
        at = rng.randrange(len(pairs))
        one, other = pairs[at]
        pairs[at] = (put_together(skin, one, other), one)
        if len(pairs) > 1:
            far = rng.choice([own for own in range(len(pairs)) if own != at])
            # One more of the one pair, the other one of the other pair: all MEETINGS stay.
            (a, b), (c, d) = pairs[at], pairs[far]
            pairs[at], pairs[far] = (put_together(skin, a, c), b), (c, put_together(skin, b, d))
        yield tuple(pairs)


class MovedTest(unittest.TestCase):
    def test_the_class(self):
        rng = random.Random(192)
        for skin in many_skins(192):
            kind, other = drawn_class(rng, skin), drawn_class(rng, skin)
            told = class_moved(skin, kind, other)
            for one in [drawn_class(rng, skin) for _ in range(6)]:
                wanted = sum(bit and left != right for bit, left, right in zip(one, kind, other)) % 2
                self.assertEqual(meetings(skin, told, one), wanted)
            self.assertEqual(class_moved(skin, other, kind), told)
            self.assertEqual(class_moved(skin, kind, kind), (0,) * len(kind))

    def test_the_mark(self):
        rng = random.Random(193)
        for skin in with_pairings(193) + [skin_with_pairing(rng, 10, 4)]:
            arrows, pairing = good_at(skin, rng.randrange(many_good(skin))), drawn_pairing(rng, skin)
            start = slow_kind(skin, arrows)
            for other in [drawn_class(rng, skin) for _ in range(3)] + [start]:
                told = mark_moved(skin, arrows, pairing, other)
                self.assertEqual(told, mark_by_pairs(skin, arrows_of(skin, other), pairing))
                turned = q_of_class(skin, arrows, pairing, class_moved(skin, start, other))
                self.assertEqual(told, mark_by_pairs(skin, arrows, pairing) * (-1 if turned else 1))

    def test_it_asks_for_good_arrows(self):
        self.assertEqual(raised(mark_moved, TWIN, (0, 0, 0, 0), (0,), (0, 0)), (Unfit, {}))
        self.assertEqual(mark_moved(TWIN, (0, 1, 0, 0), (0,), (0, 0)), 1)
        self.assertIn(mark_by_pairs(TWIN, (0, 0, 0, 0), (0,)), (1, -1))


class MarksTest(unittest.TestCase):
    def test_of_all_kinds(self):
        rng = random.Random(194)
        for skin in with_pairings(194):
            pairing = drawn_pairing(rng, skin)
            told = marks(skin, pairing)
            handles = slow_handles(skin)
            self.assertIsInstance(told, tuple)
            self.assertEqual(len(told), 4 ** handles)
            self.assertEqual(told.count(1), marks_one(skin))
            self.assertEqual(told.count(-1), 4 ** handles - marks_one(skin))
            kinds = all_bits(2 * handles)
            for at in rng.sample(range(len(kinds)), min(4, len(kinds))):
                self.assertEqual(told[at], slow_mark(skin, arrows_of(skin, kinds[at]), pairing))

    def test_how_many_are_one(self):
        rng = random.Random(195)
        wanted = [1, 3, 10, 36, 136, 528, 2080]
        for many, handles in ((1, 0), (1, 1), (3, 2), (5, 3), (7, 4), (9, 5), (12, 6), (12, 0), (12, 3)):
            self.assertEqual(marks_one(skin_with_handles(rng, many, handles)), wanted[handles])
        self.assertEqual([marks_one(own) for own in (BALL_OF_ONE, ONE, FOUR, SIX)], [1, 3, 10, 36])


class RefusalsTest(unittest.TestCase):
    def test_no_arrows(self):
        for bad in odd_things() + [(0, 0, 0), (0, 0, 0, 2), (0, 0, 0, True), "0000", [0, 0, 0, [0]]]:
            for function in (q_row, mark, mark_by_pairs):
                self.assertEqual(raised(function, TWIN, bad, (0,)), (Unfit, {}))
            for function in (q_of_class, mark_moved):
                self.assertEqual(raised(function, TWIN, bad, (0,), (0, 0)), (Unfit, {}))

    def test_no_pairing(self):
        good = (0, 1, 0, 0)
        for bad in odd_things() + [(1,), (4,), (-1,), (0, 2), (False,), [[0]], {0: 0}, (0, 0), ("0",)]:
            for function in (q_row, mark, mark_by_pairs):
                self.assertEqual(raised(function, TWIN, good, bad), (Unfit, {}))
            for function in (q_of_class, mark_moved):
                self.assertEqual(raised(function, TWIN, good, bad, (0, 0)), (Unfit, {}))
            self.assertEqual(raised(marks, TWIN, bad), (Unfit, {}))
        # Without a PAIRING whatever is told for one is none.
        for skin in (ONE, BALL_OF_ONE, SIX, ring_of(3)):
            for bad in ((), (0,), (0, 1, 2)):
                self.assertEqual(raised(marks, skin, bad), (Unfit, {}))
                self.assertEqual(raised(mark, skin, (0,) * (2 * len(skin)), bad), (Unfit, {}))

    def test_no_class_and_no_kind(self):
        good = (0, 1, 0, 0)
        for bad in (None, 0, "00", (), (0,), (0, 0, 0), (0, 2), (0, -1), (0, True), (False, 0), (0, None), [0, [1]], {0: 1, 1: 0}):
            for function in (q_of_class, mark_moved):
                self.assertEqual(raised(function, TWIN, good, (0,), bad), (Unfit, {}))
            self.assertEqual(raised(class_moved, TWIN, bad, (0, 0)), (Unfit, {}))
            self.assertEqual(raised(class_moved, TWIN, (0, 0), bad), (Unfit, {}))

    def test_no_skin(self):
        for bad in (None, 0, (), "skin", TWIN[:1], ring_of(12)[:11], (((0, 0),) * 4,)):
            for function in (paired_classes, marks_one):
                self.assertEqual(raised(function, bad), (Unfit, {}))
            self.assertEqual(raised(mark, bad, (0, 1, 0, 0), (0,)), (Unfit, {}))


if __name__ == "__main__":
    unittest.main()
