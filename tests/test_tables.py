"""[3], [14]: worths, signs, signed tables and paired sums."""

import random
import unittest

from handlepairs.arrows import good_at, many_good, turned_lot
from handlepairs.errors import NoField, Unfit
from handlepairs.kinds import turned_at
from handlepairs.tables import (
    is_signed_table, paired_sum, row_added, sign_of, signed_table, struck, sum_by_pairs, turned_table, worth_of,
)
from tests.drawn import BALL_OF_ONE, ONE, PILLOW, TWIN, grid, odd_things, raised, ring_of
from tests.shapes import (
    FOUR, QUAD, SIX, THREE, chain_of, drawn_arrows, drawn_fields, drawn_number, drawn_pairing, drawn_table, drawn_worths,
    lacking, many_skins, with_pairings,
)
from tests.slow import slow_pairings, slow_sign
from tests.slow_sums import (
    slow_paired_sum, slow_signed_sum, slow_sums_by_pairs, slow_table, slow_worth,
)

GRID = ((0, 1, 2, 3), (-1, 0, 4, 5), (-2, -4, 0, 6), (-3, -5, -6, 0))
NO_TABLES = [
    None, 0, True, "1", {0: 0}, 1.5, (0,), ((1,),), ((0, 1), (1, 0)), ((0, 1), (-1, 1)), ((0, 1),), ((0, 1), (-1,)), ((0,), (0,)),
    ((0, 0), (0, False)), ((0, True), (-1, 0)), ((None,),), (((0,),),), ((), ()), ((0, 1, 2), (-1, 0, 3), (-2, 3, 0)),
    ((0, "1"), ("-1", 0)), ((0, 1.0), (-1.0, 0)), ("0",), ((0, 10 ** 30), (10 ** 30, 0)), [[0], [0]], ((0, 1), (-2, 0)),
]


def drawn_tables(seed, sizes=range(11), each=6):
    rng = random.Random(seed)
    for many in sizes:
        for _ in range(each):
            yield drawn_table(rng, many)


def dense_table(rng, many, greatest):
    rows = [[0] * many for _ in range(many)]
    for one in range(many):
        for other in range(one):
            rows[one][other] = rng.randrange(-greatest, greatest + 1)
            rows[other][one] = -rows[one][other]
    return tuple(tuple(row) for row in rows)


def drawn_rows(rng, table):
    return tuple(row for row in range(len(table)) if rng.randrange(2))


class WorthTest(unittest.TestCase):
    def test_of_pairings(self):
        rng = random.Random(201)
        for skin in with_pairings(201):
            for _ in range(4):
                worths, pairing = drawn_worths(rng, skin), drawn_pairing(rng, skin)
                self.assertEqual(worth_of(skin, worths, pairing), slow_worth(worths, pairing))

    def test_great_small_and_none(self):
        self.assertEqual(worth_of(chain_of(12), (10 ** 6,) * 24, slow_pairings(chain_of(12))[0]), 10 ** 36)
        self.assertEqual(worth_of(chain_of(6), (-10 ** 6,) * 12, slow_pairings(chain_of(6))[0]), -10 ** 18)
        self.assertEqual(worth_of(TWIN, (0, 5, 5, 5), (0,)), 0)
        self.assertEqual(worth_of(TWIN, (10 ** 30, 5, -1, 5), (0,)), 10 ** 30)


class SignTest(unittest.TestCase):
    def test_of_pairings(self):
        rng = random.Random(202)
        for skin in with_pairings(202):
            for _ in range(4):
                arrows, pairing = drawn_arrows(rng, skin), drawn_pairing(rng, skin)
                self.assertEqual(sign_of(skin, arrows, pairing), slow_sign(skin, arrows, pairing))

    def test_with_arrows_turned(self):
        rng = random.Random(203)
        for skin in with_pairings(203):
            arrows, pairing = drawn_arrows(rng, skin), drawn_pairing(rng, skin)
            start = sign_of(skin, arrows, pairing)
            lot = tuple(edge for edge in range(2 * len(skin)) if rng.randrange(2))
            both = len(set(lot) & set(pairing))
            self.assertEqual(sign_of(skin, turned_lot(skin, arrows, lot), pairing), start * (-1) ** both)
            fields = drawn_fields(rng, skin)
            self.assertEqual(sign_of(skin, turned_at(skin, arrows, fields), pairing), start * (-1) ** len(fields))


class SignedTableTest(unittest.TestCase):
    def test_number_by_number(self):
        rng = random.Random(204)
        for skin in many_skins(204):
            arrows, worths = drawn_arrows(rng, skin), drawn_worths(rng, skin)
            told = signed_table(skin, arrows, worths)
            self.assertEqual(told, slow_table(skin, arrows, worths))
            self.assertIs(is_signed_table(told), True)

    def test_a_field_sewn_to_itself_gives_nothing(self):
        for skin in (ONE, BALL_OF_ONE):
            for arrows in ((0, 0), (0, 1), (1, 1)):
                self.assertEqual(signed_table(skin, arrows, (7, -10 ** 6)), ((0,),))
        self.assertEqual(signed_table(TWIN, (0, 1, 0, 1), (0, 9, 0, 9)), ((0, 0), (0, 0)))

    def test_its_paired_sum_is_the_signed_worths_of_all_pairings(self):
        rng = random.Random(205)
        for skin in many_skins(205) + with_pairings(206) + [lacking((1, 1, 1, 1)), SIX, THREE]:
            for _ in range(2):
                arrows, worths = drawn_arrows(rng, skin), drawn_worths(rng, skin)
                told = paired_sum(signed_table(skin, arrows, worths))
                self.assertEqual(told, slow_signed_sum(skin, arrows, worths))
                fields = drawn_fields(rng, skin)
                turned = paired_sum(signed_table(skin, turned_at(skin, arrows, fields), worths))
                self.assertEqual(turned, told * (-1) ** len(fields))

    def test_odd_or_lacking_ones_have_paired_sum_0(self):
        rng = random.Random(207)
        for skin in (ONE, BALL_OF_ONE, THREE, ring_of(3), ring_of(11), SIX, lacking((1, 1, 1, 1)), lacking((3, 3, 3, 1))):
            self.assertEqual(paired_sum(signed_table(skin, drawn_arrows(rng, skin), drawn_worths(rng, skin))), 0)

    def test_without_handles_good_arrows_count_all_alike(self):
        rng = random.Random(208)
        for skin in with_pairings(208, 2, (0,)):
            good = good_at(skin, rng.randrange(many_good(skin)))
            total = paired_sum(signed_table(skin, good, (1,) * (2 * len(skin))))
            self.assertEqual(abs(total), len(slow_pairings(skin)))


class PairedSumTest(unittest.TestCase):
    def test_drawn_tables(self):
        for table in drawn_tables(209):
            self.assertEqual(paired_sum(table), slow_paired_sum(table))

    def test_all_numbers_small_or_all_great(self):
        rng = random.Random(210)
        for many in (2, 4, 6, 8):
            for greatest in (1, 2, 10 ** 6, 10 ** 40):
                for _ in range(8):
                    table = dense_table(rng, many, greatest)
                    self.assertEqual(paired_sum(table), slow_paired_sum(table))

    def test_of_12_rows(self):
        rng = random.Random(211)
        for table in (drawn_table(rng, 12), dense_table(rng, 12, 1), dense_table(rng, 12, 10 ** 6)):
            self.assertEqual(paired_sum(table), slow_paired_sum(table))

    def test_few_rows(self):
        self.assertEqual([paired_sum(own) for own in ((), ((0,),), ((0, 7), (-7, 0)))], [1, 0, 7])
        self.assertEqual(paired_sum([[0, -10 ** 6], [10 ** 6, 0]]), -10 ** 6)

    def test_oddly_many_rows(self):
        for table in drawn_tables(212, (1, 3, 5, 7, 11, 13)):
            self.assertEqual(paired_sum(table), 0)

    def test_the_first_row_joined_to_the_last_alone(self):
        for many in (2, 4, 6, 8, 10):
            rows = [[0] * many for _ in range(many)]
            for one in range(many):
                rows[one][many - 1 - one] = 1 if one < many // 2 else -1
            table = tuple(map(tuple, rows))
            self.assertEqual(paired_sum(table), slow_paired_sum(table))
            self.assertEqual(paired_sum(table), 1)
        self.assertEqual(paired_sum(((0,) * 4,) * 4), 0)

    def test_somewhat_more_rows_too(self):
        blocks = [3, -5, 7, 2, 1, -1, 4, 6]
        rows = [[0] * 16 for _ in range(16)]
        for at, number in enumerate(blocks):
            rows[2 * at][2 * at + 1], rows[2 * at + 1][2 * at] = number, -number
        table = tuple(map(tuple, rows))
        self.assertEqual(paired_sum(table), 3 * 5 * 7 * 2 * 4 * 6)
        for field in range(1, 16):
            table = row_added(table, field - 1, field, field % 3 - 1)
        self.assertEqual(paired_sum(table), 3 * 5 * 7 * 2 * 4 * 6)


class RowsTest(unittest.TestCase):
    def test_struck(self):
        rng = random.Random(213)
        for table in drawn_tables(213, range(9)):
            rows = drawn_rows(rng, table)
            kept = [row for row in range(len(table)) if row not in rows]
            wanted = tuple(tuple(table[row][far] for far in kept) for row in kept)
            self.assertEqual(struck(table, rows), wanted)
            self.assertEqual(struck(table, ()), table)
            self.assertEqual(struck(table, tuple(range(len(table)))), ())

    def test_turned(self):
        rng = random.Random(214)
        for table in drawn_tables(214, range(9)):
            rows = drawn_rows(rng, table)
            told = turned_table(table, rows)
            for one in range(len(table)):
                for other in range(len(table)):
                    sign = -1 if (one in rows) != (other in rows) else 1
                    self.assertEqual(told[one][other], sign * table[one][other])
            self.assertIs(is_signed_table(told), True)
            self.assertEqual(paired_sum(told), paired_sum(table) * (-1) ** len(rows))
            self.assertEqual(turned_table(told, rows), table)

    def test_added(self):
        rng = random.Random(215)
        for table in drawn_tables(215, range(2, 9)):
            field, other = rng.sample(range(len(table)), 2)
            number = drawn_number(rng)
            told = row_added(table, field, other, number)
            rows = [list(row) for row in table]
            rows[other] = [own + number * more for own, more in zip(rows[other], rows[field])]
            for row in rows:
                row[other] += number * row[field]
            self.assertEqual(told, tuple(map(tuple, rows)))
            self.assertIs(is_signed_table(told), True)
            self.assertEqual(paired_sum(told), paired_sum(table))
            self.assertEqual(row_added(told, field, other, -number), table)
            self.assertEqual(row_added(table, field, other, 0), table)

    def test_two_exchanged(self):
        rng = random.Random(216)
        for table in drawn_tables(216, (2, 4, 6, 8)):
            one, other = rng.sample(range(len(table)), 2)
            # Exchanged by rows added, and one of them turned: so the PAIRED SUM has the other sign.
            told = row_added(row_added(row_added(table, one, other, 1), other, one, -1), one, other, 1)
            told = turned_table(told, (one,))
            order = list(range(len(table)))
            order[one], order[other] = other, one
            self.assertEqual(told, tuple(tuple(table[row][far] for far in order) for row in order))
            self.assertEqual(paired_sum(told), -paired_sum(table))

    def test_sum_by_pairs(self):
        for table in drawn_tables(217, range(1, 9)):
            for row in range(len(table)):
                told = sum_by_pairs(table, row)
                self.assertIsInstance(told, tuple)
                self.assertEqual(told, slow_sums_by_pairs(table, row))
                self.assertEqual(told[row], 0)
                self.assertEqual(sum(told), paired_sum(table))

    def test_sum_by_pairs_of_odd_ones(self):
        for many in (1, 3, 5):
            table = dense_table(random.Random(218), many, 9)
            self.assertEqual([sum_by_pairs(table, row) for row in range(many)], [(0,) * many] * many)


class IsTableTest(unittest.TestCase):
    def test_tables(self):
        for table in drawn_tables(219):
            self.assertIs(is_signed_table(table), True)
        self.assertIs(is_signed_table(()), True)
        self.assertIs(is_signed_table(((0,),)), True)
        self.assertIs(is_signed_table(((0, 10 ** 40), (-10 ** 40, 0))), True)

    def test_one_number_else(self):
        rng = random.Random(220)
        for table in drawn_tables(220, range(1, 7), 3):
            one, other = rng.randrange(len(table)), rng.randrange(len(table))
            for number in (table[one][other] + 1, None, True, False, "0", (0,), 0.0, [0]):
                rows = [list(row) for row in table]
                rows[one][other] = number
                self.assertIs(is_signed_table(tuple(map(tuple, rows))), False)

    def test_what_is_none(self):
        for thing in [own for own in odd_things() if own != ()] + NO_TABLES + [[], [()], list(GRID), GRID[:3], ((0,), ())]:
            self.assertIs(is_signed_table(thing), False)
        self.assertIs(is_signed_table(GRID[:3] + (list(GRID[3]),)), False)

    def test_great_ones(self):
        self.assertIs(is_signed_table(((0,) * 300,) * 300), True)
        self.assertIs(is_signed_table(((0,) * 300,) * 299 + ((0,) * 299 + (1,),)), False)


class RefusalsTest(unittest.TestCase):
    def test_no_table(self):
        for bad in NO_TABLES:
            for function, more in (
                (paired_sum, ()), (struck, ((),)), (turned_table, ((),)), (row_added, (0, 1, 1)), (sum_by_pairs, (0,)),
                (struck, ((99,),)), (sum_by_pairs, (99,)), (row_added, (99, 99, 1)),
            ):
                self.assertEqual(raised(function, bad, *more), (Unfit, {}))

    def test_no_field(self):
        self.assertEqual(raised(struck, GRID, (1, 4, 7)), (NoField, {"field": 4}))
        self.assertEqual(raised(turned_table, GRID, [3, 9, 10 ** 30]), (NoField, {"field": 9}))
        self.assertEqual(raised(sum_by_pairs, GRID, 4), (NoField, {"field": 4}))
        self.assertEqual(raised(sum_by_pairs, (), 0), (NoField, {"field": 0}))
        self.assertEqual(raised(struck, (), (0,)), (NoField, {"field": 0}))
        self.assertEqual(raised(row_added, GRID, 5, 4, 1), (NoField, {"field": 5}))
        self.assertEqual(raised(row_added, GRID, 0, 4, 1), (NoField, {"field": 4}))
        self.assertEqual(raised(row_added, GRID, 6, 6, 1), (NoField, {"field": 6}))

    def test_a_row_to_itself(self):
        for field in range(4):
            self.assertEqual(raised(row_added, GRID, field, field, 0), (Unfit, {}))

    def test_below_0_and_no_numbers(self):
        for bad in (-1, -4, None, True, False, "0", (0,), 0.0, [1]):
            self.assertEqual(raised(sum_by_pairs, GRID, bad), (Unfit, {}))
            self.assertEqual(raised(row_added, GRID, bad, 1, 1), (Unfit, {}))
            self.assertEqual(raised(row_added, GRID, 1, bad, 1), (Unfit, {}))
            # Ahead of a field that is none of a row.
            self.assertEqual(raised(row_added, GRID, 99, bad, 1), (Unfit, {}))
        for bad in (None, True, "0", (0,), 0.5, [1]):
            self.assertEqual(raised(row_added, GRID, 99, 1, bad), (Unfit, {}))
            self.assertEqual(raised(row_added, GRID, 1, 1, bad), (Unfit, {}))

    def test_no_set_of_rows(self):
        for bad in (None, 0, "0", (1, 0), (0, 0), (-1,), (-1, 99), (99, 1), (True,), (0, True), ((0,),), {0: 1}, (0, "1"), (99, 99)):
            self.assertEqual(raised(struck, GRID, bad), (Unfit, {}))
            self.assertEqual(raised(turned_table, GRID, bad), (Unfit, {}))

    def test_no_worths(self):
        for bad in (
            None, 0, "1111", (), (1, 1, 1), (1,) * 5, (1, 1, 1, True), (1, 1, 1, None), (1, 1, 1, "1"), ((1,),) * 4, {0: 1},
            (1, 1, 1, 1.0), [1, 1, 1, [1]],
        ):
            self.assertEqual(raised(worth_of, TWIN, bad, (0,)), (Unfit, {}))
            self.assertEqual(raised(worth_of, TWIN, bad, (1,)), (Unfit, {}))
            self.assertEqual(raised(signed_table, TWIN, (0, 0, 0, 0), bad), (Unfit, {}))

    def test_no_arrows_and_no_pairing(self):
        for bad in odd_things() + [(0, 0, 0), (0, 0, 0, 2), (0, 0, 0, True), "0000"]:
            self.assertEqual(raised(signed_table, TWIN, bad, (1, 1, 1, 1)), (Unfit, {}))
            self.assertEqual(raised(sign_of, TWIN, bad, (0,)), (Unfit, {}))
        for bad in odd_things() + [(1,), (4,), (0, 2), (True,), ((0,),)]:
            self.assertEqual(raised(sign_of, TWIN, (0, 0, 0, 0), bad), (Unfit, {}))
            self.assertEqual(raised(worth_of, TWIN, (1, 1, 1, 1), bad), (Unfit, {}))
        for skin in (ONE, SIX, ring_of(3), ring_of(11)):
            worths = (1,) * (2 * len(skin))
            self.assertEqual(raised(worth_of, skin, worths, ()), (Unfit, {}))

    def test_arrows_need_not_be_good(self):
        self.assertEqual(sign_of(TWIN, (0, 0, 0, 0), (0,)), 1)
        self.assertEqual(signed_table(PILLOW, (1, 0, 0, 0), (1, 2, 3, 4)), ((0, 8), (-8, 0)))
        self.assertEqual(signed_table(QUAD, (0,) * 8, (1,) * 8), slow_table(QUAD, (0,) * 8, (1,) * 8))
        self.assertEqual(signed_table(grid(3, 4), [1] * 24, [2] * 24), slow_table(grid(3, 4), (1,) * 24, (2,) * 24))
        self.assertEqual(signed_table(FOUR, (0,) * 8, (0,) * 8), ((0,) * 4,) * 4)


if __name__ == "__main__":
    unittest.main()
