"""[21]: demands, papers against them, reasons for them."""

import itertools
import random
import unittest

from handlepairs.arrows import good_at, many_good
from handlepairs.counts import parts
from handlepairs.errors import TooMany, Unfit
from handlepairs.judge import (
    first_fallen, is_demand, is_paper_against, is_reason_for, is_so, paper_against, reason_for,
)
from handlepairs.turns import lot_of, step_rows, steps
from tests.drawn import (
    BALL_OF_ONE, ONE, PAIR, PILLOW, TWIN, as_lists, exchanged, grid, nest, odd_things, raised, ring_of,
)
from tests.shapes import (
    FOUR, QUAD, SIX, THREE, chain_of, drawn_class, drawn_fields, drawn_pairing, drawn_worths, even, lacking, many_skins, odd,
    skin_with_handles, skin_with_pairing, with_pairings,
)
from tests.slow import (
    all_bits, ends_evenly, slow_handles, slow_is_good, slow_kind, slow_pairings, slow_turned_at,
)
from tests.slow_sums import slow_crossed, slow_even_lots, slow_mark, slow_q, slow_sum

JUDGED = (is_so, paper_against, reason_for)


def drawn_good(rng, skin):
    return good_at(skin, rng.randrange(many_good(skin)))


def few_handles(skins):
    return [skin for skin in skins if slow_handles(skin) <= 3]


def good_demands(seed):
    """Pairs of a DEMAND "good" and whether it stands."""
    for skin in many_skins(seed, 1):
        yield ("good", skin), len(skin) % 2 == 0


def led_demands(seed):
    rng = random.Random(seed)
    for skin in even(many_skins(seed, 1)):
        arrows, other = drawn_good(rng, skin), drawn_good(rng, skin)
        turned = slow_turned_at(skin, arrows, drawn_fields(rng, skin))
        for own in (other, turned):
            yield ("led", skin, arrows, own), slow_kind(skin, arrows) == slow_kind(skin, own)


def sum_demands(seed):
    rng = random.Random(seed)
    for skin in few_handles(many_skins(seed, 1))[::2] + with_pairings(seed)[::3]:
        worths = drawn_worths(rng, skin)
        total = slow_sum(skin, worths)
        for number in {total, total + 1, 0}:
            yield ("sum", skin, worths, number), number == total


def steps_demands(seed):
    rng = random.Random(seed)
    for skin in few_handles(many_skins(seed, 1)):
        kind = drawn_class(rng, skin)
        least = steps(skin)[all_bits(2 * slow_handles(skin)).index(kind)]
        for number in {0, max(0, least - 1), least, least + 1, 10 ** 6}:
            yield ("steps", skin, kind, number), number >= least


def mark_demands(seed):
    rng = random.Random(seed)
    for skin in with_pairings(seed, 1, (0, 1, 2)) + with_pairings(seed, 1, (3,))[:2]:
        for _ in range(2):
            arrows, pairing = drawn_good(rng, skin), drawn_pairing(rng, skin)
            yield ("mark", skin, arrows, pairing), slow_mark(skin, arrows, pairing) == 1


def all_demands(seed):
    told = (good_demands, led_demands, sum_demands, steps_demands, mark_demands)
    return itertools.chain.from_iterable(own(seed) for own in told)


class IsDemandTest(unittest.TestCase):
    def test_of_each_kind(self):
        rng = random.Random(321)
        for demand, _ in all_demands(321):
            self.assertIs(is_demand(demand), True)
            self.assertIs(is_demand(list(demand)), False)
            at = rng.randrange(len(demand))
            if isinstance(demand[at], tuple):
                self.assertIs(is_demand(demand[:at] + (list(demand[at]),) + demand[at + 1:]), False)
            self.assertIs(is_demand(demand[:-1]), False)
            self.assertIs(is_demand(demand + demand[-1:]), False)
            for word in ("good", "led", "sum", "steps", "mark"):
                if word != demand[0] and len(demand) != 4:
                    self.assertIs(is_demand((word,) + demand[1:]), False)

    def test_one_thing_else(self):
        good = (0, 1, 0, 0)
        for thing in (
            ("good",), ("good", TWIN[:1]), ("good", TWIN, ()), ("good", as_lists(TWIN)), ["good", TWIN], ("Good", TWIN), ("", TWIN),
            (0, TWIN), (None, TWIN), (("good",), TWIN), (["good"], TWIN), (b"good", TWIN), ("good ", TWIN), "good", (nest("good", 15), TWIN),
            ("led", TWIN, good, (0, 0, 0, 0)), ("led", TWIN, (0, 0, 0, 0), good), ("led", TWIN, good), ("led", TWIN, good, list(good)),
            ("led", ONE, (0, 0), (0, 0)), ("led", TWIN, good, good[:3]), ("led", TWIN, good, (0, 1, 0, False)),
            ("sum", TWIN, (1, 1, 1), 0), ("sum", TWIN, (1, 1, 1, True), 0), ("sum", TWIN, (1,) * 4, True), ("sum", TWIN, (1,) * 4, None),
            ("sum", TWIN, (1,) * 4, (0,)), ("sum", TWIN, (1,) * 4), ("sum", TWIN, 1, 1), ("sum", TWIN, [1] * 4, 1),
            ("steps", TWIN, (0,), 0), ("steps", TWIN, (0, 2), 0), ("steps", TWIN, (0, 0), -1), ("steps", TWIN, (0, 0), False),
            ("steps", TWIN, (0, True), 0), ("steps", TWIN, (0, 0), "0"), ("steps", TWIN, [0, 0], 0), ("steps", TWIN, 0, 0),
            ("mark", TWIN, (0, 0, 0, 0), (0,)), ("mark", TWIN, good, (1,)), ("mark", TWIN, good, [0]), ("mark", TWIN, good, (False,)),
            ("mark", TWIN, good, ()), ("mark", ONE, (0, 0), ()), ("mark", SIX, (0,) * 12, ()), ("mark", TWIN, (0,), good),
            (), ((),), ("good", "good"), ("mark", TWIN, good, None), ("steps", TWIN, None, 0), ("led", TWIN, None, None),
        ):
            self.assertIs(is_demand(thing), False, thing)
            self.assertEqual(raised(is_so, thing)[0], Unfit if not is_fit_as_lists(thing) else None)
        for thing in odd_things() + [{}, {"good": 1}, 1.5]:
            self.assertIs(is_demand(thing), False)
            self.assertIs(is_demand(("good", thing)), False)
            self.assertIs(is_demand((thing, TWIN)), False)

    def test_whatever_the_handles_and_the_fields(self):
        rng = random.Random(322)
        skin = skin_with_pairing(rng, 8, 4)
        good, pairing = drawn_good(rng, skin), drawn_pairing(rng, skin)
        for demand in (
            ("good", skin), ("led", skin, good, good), ("sum", skin, (1,) * 16, 10 ** 40), ("steps", skin, (0,) * 8, 10 ** 40),
            ("mark", skin, good, pairing), ("good", ring_of(40)), ("sum", ring_of(41), (-10 ** 30,) * 82, -1),
            ("steps", ring_of(30), (1, 1), 0),
        ):
            self.assertIs(is_demand(demand), True)


def is_fit_as_lists(thing):
    """Whether it is a DEMAND with lists in the place of tuples."""
    def as_tuples(value):
        return tuple(map(as_tuples, value)) if isinstance(value, (list, tuple)) else value

    return is_demand(as_tuples(thing))


class JudgedTest(unittest.TestCase):
    def test_each_stands_or_falls(self):
        found = {}
        for demand, stands in all_demands(323):
            found.setdefault(demand[0], set()).add(stands)
            self.assertIs(is_so(demand), stands, demand)
            paper, reason = paper_against(demand), reason_for(demand)
            self.assertEqual((paper is None, reason is None), (stands, not stands))
            if stands:
                self.assertIs(is_reason_for(demand, reason), True)
                self.assertIs(is_paper_against(demand, reason), False)
            else:
                self.assertIs(is_paper_against(demand, paper), True)
                self.assertIs(is_reason_for(demand, paper), False)
        self.assertEqual(found, {word: {True, False} for word in ("good", "led", "sum", "steps", "mark")})

    def test_lists_at_each_depth_and_names(self):
        rng = random.Random(324)
        for demand, stands in itertools.islice(all_demands(324), 0, None, 5):
            for own in (as_lists(demand), exchanged(demand, rng)):
                kept = repr(own)
                self.assertIs(is_so(demand=own), stands)
                self.assertEqual(paper_against(demand=own), paper_against(demand))
                self.assertEqual(reason_for(own), reason_for(demand))
                self.assertIs(is_paper_against(demand=own, thing=paper_against(demand)), not stands)
                self.assertIs(is_reason_for(thing=reason_for(demand), demand=own), stands)
                self.assertEqual(repr(own), kept)

    def test_whatever_the_thing(self):
        for demand, _ in itertools.islice(all_demands(325), 0, None, 13):
            for thing in odd_things():
                # A number may be a PAPER against a sum; () a REASON, and ((),) one without handles.
                if isinstance(thing, bool) or not isinstance(thing, int) and thing not in ((), ((),)):
                    self.assertIs(is_paper_against(demand, thing), False)
                    self.assertIs(is_reason_for(demand, thing), False)
            for told, judge in ((paper_against(demand), is_paper_against), (reason_for(demand), is_reason_for)):
                if isinstance(told, tuple):
                    self.assertIs(judge(demand, list(told)), False)
                    self.assertIs(judge(demand, (told,)), False)
                    self.assertIs(judge(demand, told + (None,)), False)

    def test_more_than_3_handles(self):
        rng = random.Random(326)
        for many, handles in ((8, 4), (10, 5)):
            skin = skin_with_pairing(rng, many, handles)
            good, pairing = drawn_good(rng, skin), drawn_pairing(rng, skin)
            for demand in (
                ("sum", skin, (1,) * (2 * many), 0), ("steps", skin, (0,) * (2 * handles), 0), ("mark", skin, good, pairing),
            ):
                for function in JUDGED:
                    self.assertEqual(raised(function, demand), (TooMany, {}))
                    self.assertEqual(raised(function, demand + (0,)), (Unfit, {}))
                for thing in odd_things()[::4] + [(), 0]:
                    self.assertEqual(raised(is_paper_against, demand, thing), (TooMany, {}))
                    self.assertEqual(raised(is_reason_for, demand, thing), (TooMany, {}))
            self.assertIs(is_so(("good", skin)), True)
            self.assertIs(is_so(("led", skin, good, good)), True)
            far = drawn_good(rng, skin)
            self.assertIs(is_so(("led", skin, good, far)), slow_kind(skin, good) == slow_kind(skin, far))
        skin = skin_with_handles(rng, 9, 4)
        self.assertEqual(raised(is_so, ("sum", skin, (0,) * 18, 0)), (TooMany, {}))

    def test_no_demand_whatever_the_thing(self):
        for thing in odd_things():
            for function in (is_paper_against, is_reason_for):
                self.assertEqual(raised(function, ("good", TWIN[:1]), thing), (Unfit, {}))
                self.assertEqual(raised(function, thing, thing), (Unfit, {}))
            for function in JUDGED:
                self.assertEqual(raised(function, thing), (Unfit, {}))
        round_list = []
        round_list.append(round_list)
        for function in JUDGED:
            self.assertEqual(raised(function, round_list), (Unfit, {}))
            self.assertEqual(raised(function, ["good", round_list]), (Unfit, {}))


class GoodTest(unittest.TestCase):
    def test_papers(self):
        for skin in odd(many_skins(327, 1)):
            self.assertEqual(paper_against(("good", skin)), len(skin))
            for thing in (len(skin) + 1, len(skin) - 1, str(len(skin)), (len(skin),), float(len(skin)), None):
                self.assertIs(is_paper_against(("good", skin), thing), False)
        self.assertIs(is_paper_against(("good", ONE), 1), True)
        self.assertIs(is_paper_against(("good", ONE), True), False)
        self.assertIs(is_paper_against(("good", TWIN), 2), False)

    def test_reasons(self):
        for skin in (TWIN, PILLOW, QUAD, FOUR):
            for arrows in all_bits(2 * len(skin)):
                self.assertIs(is_reason_for(("good", skin), arrows), slow_is_good(skin, arrows))
        for skin in even(many_skins(328, 1)):
            self.assertTrue(slow_is_good(skin, reason_for(("good", skin))))
        for thing in ((0, 1, 0, False), [0, 1, 0, 0], (0, 1, 0), (0, 1, 0, 0, 0)):
            self.assertIs(is_reason_for(("good", TWIN), thing), False)
        for skin in (ONE, BALL_OF_ONE, PAIR):
            for arrows in all_bits(2 * len(skin)):
                self.assertIs(is_reason_for(("good", skin), arrows), False)


class LedTest(unittest.TestCase):
    def test_papers(self):
        for demand, stands in led_demands(329):
            _, skin, arrows, other = demand
            one, far = slow_kind(skin, arrows), slow_kind(skin, other)
            for thing in range(-1, len(one) + 2):
                wanted = 0 <= thing < len(one) and one[thing] != far[thing]
                self.assertIs(is_paper_against(demand, thing), wanted)
            for thing in (True, False, None, "0", (0,)):
                self.assertIs(is_paper_against(demand, thing), False)

    def test_reasons(self):
        rng = random.Random(330)
        for demand, stands in led_demands(330):
            _, skin, arrows, other = demand
            fields = tuple(range(len(skin)))
            told = [drawn_fields(rng, skin) for _ in range(5)]
            if stands:
                told.append(reason_for(demand))
                told.append(tuple(field for field in fields if field not in told[-1]))
            for own in told:
                wanted = slow_turned_at(skin, arrows, own) == other
                self.assertIs(is_reason_for(demand, own), wanted)
            if stands:
                self.assertTrue(wanted)
                self.assertIs(is_reason_for(demand, told[-1] + (len(skin),)), False)
                self.assertIs(is_reason_for(demand, told[-1] + told[-1]), False or not told[-1])


class SumTest(unittest.TestCase):
    def test_papers(self):
        for demand, stands in sum_demands(331):
            total = slow_sum(demand[1], demand[2])
            for thing in (total, total + 1, demand[3], str(total), (total,), None, float(total)):
                wanted = not stands and type(thing) is int and thing == total
                self.assertIs(is_paper_against(demand, thing), wanted)
        self.assertIs(is_paper_against(("sum", TWIN, (1, 1, 0, 1), 5), 1), True)
        self.assertIs(is_paper_against(("sum", TWIN, (1, 1, 0, 1), 5), True), False)

    def test_reasons(self):
        for demand, stands in sum_demands(332):
            _, skin, worths, _ = demand
            pairings = slow_pairings(skin)
            told = parts(skin, worths, pairings[-1]) if pairings else ()
            self.assertEqual(reason_for(demand), told if stands else None)
            self.assertIs(is_reason_for(demand, told), stands)
            for thing in (told + (0,), told[:-1] if told else (0,), list(told), (told,), sum(told), tuple(own + 1 for own in told) or (1,)):
                self.assertIs(is_reason_for(demand, thing), False)

    def test_without_a_pairing(self):
        for skin in (ONE, BALL_OF_ONE, THREE, SIX, lacking((1, 1, 1, 1)), ring_of(11)):
            worths = (7,) * (2 * len(skin))
            self.assertEqual(reason_for(("sum", skin, worths, 0)), ())
            self.assertIs(is_reason_for(("sum", skin, worths, 0), ()), True)
            self.assertIs(is_reason_for(("sum", skin, worths, 0), []), False)
            self.assertIs(is_reason_for(("sum", skin, worths, 1), ()), False)
            self.assertEqual(paper_against(("sum", skin, worths, 7)), 0)
            self.assertIs(is_paper_against(("sum", skin, worths, 7), False), False)

    def test_true_is_no_part(self):
        demand = ("sum", PILLOW, (1, 0, 0, 0), 1)
        self.assertEqual(reason_for(demand), (1,))
        self.assertIs(is_reason_for(demand, (True,)), False)


class StepsTest(unittest.TestCase):
    def test_papers(self):
        for demand, stands in steps_demands(333):
            rows = step_rows(demand[1])
            self.assertIs(is_paper_against(demand, rows), not stands)
            self.assertIs(is_paper_against(demand, as_lists(rows)), False)
            self.assertIs(is_paper_against(demand, rows[:-1]), False)
            self.assertEqual(paper_against(demand), None if stands else rows)
        self.assertIs(is_paper_against(("steps", ONE, (1, 1), 1), (((0,), (1,), (1,), (2,)),)), True)
        self.assertIs(is_paper_against(("steps", ONE, (1, 1), 1), (((0,), (True,), (1,), (2,)),)), False)

    def test_reasons(self):
        for skin in (TWIN, PILLOW, ONE, PAIR, QUAD, FOUR, THREE):
            for kind in all_bits(2 * slow_handles(skin))[::3]:
                least = len(lot_of(skin, kind))
                for number in (least, least + 1):
                    for lot, own in slow_even_lots(skin):
                        wanted = own == kind and len(lot) <= number
                        self.assertIs(is_reason_for(("steps", skin, kind, number), lot), wanted)
                if least:
                    self.assertIs(is_reason_for(("steps", skin, kind, least - 1), lot_of(skin, kind)), False)
        for thing in ((1,), (1, 4), [1, 3], (3, 1), (True, 3), (1, 3.0)):
            self.assertIs(is_reason_for(("steps", TWIN, (0, 1), 4), thing), False)

    def test_what_is_told(self):
        for demand, stands in steps_demands(334):
            if stands:
                lot = reason_for(demand)
                self.assertTrue(ends_evenly(demand[1], lot))
                self.assertEqual(slow_crossed(demand[1], lot), demand[2])
                self.assertLessEqual(len(lot), demand[3])


class MarkTest(unittest.TestCase):
    def test_sets_of_classes(self):
        rng = random.Random(335)
        for demand, stands in mark_demands(335):
            _, skin, arrows, pairing = demand
            told = {one: slow_q(skin, arrows, pairing, one) for one in all_bits(2 * slow_handles(skin))}
            most = tuple(one for one in told if told[one] == (not stands))
            judge, other = (is_reason_for, is_paper_against) if stands else (is_paper_against, is_reason_for)
            for many in {len(most), len(told) // 2 + 1, len(told) // 2, 0}:
                own = tuple(sorted(rng.sample(most, many)))
                self.assertIs(judge(demand, own), 2 * many > len(told))
                self.assertIs(other(demand, own), False)
            rest = [one for one in told if one not in most]
            if rest:
                self.assertIs(judge(demand, tuple(sorted(most + (rest[0],)))), False)
            for thing in (most + most[-1:], most[:1] * (len(told) + 1), list(most), tuple(map(list, most)), (most,), None, most + (None,)):
                self.assertIs(judge(demand, thing), False)
            if len(most) > 1:
                self.assertIs(judge(demand, most[::-1]), False)

    def test_without_handle(self):
        for skin in (PILLOW, chain_of(8)):
            demand = ("mark", skin, drawn_good(random.Random(336), skin), slow_pairings(skin)[0])
            self.assertEqual((is_so(demand), paper_against(demand), reason_for(demand)), (True, None, ((),)))
            for thing, wanted in ((((),), True), ((), False), (((), ()), False), ([()], False), (([],), False), (((0,),), False)):
                self.assertIs(is_reason_for(demand, thing), wanted)
                self.assertIs(is_paper_against(demand, thing), False)

    def test_true_and_false_are_no_bits(self):
        demand = ("mark", TWIN, (0, 0, 1, 1), (0,))
        self.assertIs(is_paper_against(demand, ((0, 1), (1, 0), (1, 1))), True)
        self.assertIs(is_paper_against(demand, ((0, 1), (1, 0), (1, True))), False)
        self.assertIs(is_paper_against(demand, ((False, 1), (1, 0), (1, 1))), False)


class FirstFallenTest(unittest.TestCase):
    def test_the_first_that_falls(self):
        rng = random.Random(337)
        told = list(all_demands(337))
        for _ in range(40):
            own = rng.sample(told, rng.randrange(6))
            falls = [at for at, (_, stands) in enumerate(own) if not stands]
            demands = tuple(demand for demand, _ in own)
            wanted = falls[0] if falls else None
            self.assertEqual(first_fallen(demands), wanted)
            self.assertEqual(first_fallen(demands=as_lists(demands)), wanted)
        self.assertIsNone(first_fallen(()))
        self.assertIsNone(first_fallen([]))
        self.assertIsNone(first_fallen((("good", TWIN),) * 5))

    def test_too_many_when_it_comes_to_such_a_one(self):
        rng = random.Random(338)
        skin = skin_with_pairing(rng, 8, 4)
        great, falls, stands = ("sum", skin, (1,) * 16, 0), ("good", ONE), ("good", skin)
        self.assertEqual(first_fallen((stands, falls, great)), 1)
        self.assertEqual(raised(first_fallen, (stands, great, falls)), (TooMany, {}))
        self.assertEqual(raised(first_fallen, (stands, stands, great)), (TooMany, {}))
        self.assertEqual(raised(first_fallen, (great, falls, ("good",))), (Unfit, {}))
        self.assertEqual(first_fallen((falls, ("steps", skin, (0,) * 8, 0), ("mark", skin, drawn_good(rng, skin), drawn_pairing(rng, skin)))), 0)

    def test_no_demands(self):
        good = ("good", TWIN)
        for bad in odd_things() + [good, (good, None), (good, ()), (good, ("good",)), {0: good}, ((good,),), (good, ("good", grid(1, 2)[:1])), 1.5]:
            if not isinstance(bad, (list, tuple)) or bad:
                self.assertEqual(raised(first_fallen, bad), (Unfit, {}))
        self.assertEqual(raised(first_fallen, (("good", ONE), ("good", TWIN[:1]))), (Unfit, {}))


if __name__ == "__main__":
    unittest.main()
