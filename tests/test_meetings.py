"""[3], [11]: left rings, the meeting table, the form, meetings, square tables of bits."""

import itertools
import random
import unittest

from handlepairs.errors import CanNot, TooMany, Unfit
from handlepairs.meetings import (
    class_that_meets, form, left_ring, meeting_table, meetings, met_evenly, rings_meet, table_back, table_times,
)
from handlepairs.rings import is_ring, put_together
from tests.drawn import BALL_OF_ONE, ONE, PILLOW, TWIN, raised, ring_of, small_skins
from tests.shapes import (
    QUAD, ROW, SIX, THREE, chain_of, drawn_bits, drawn_class, drawn_ring, drawn_simple_ring, many_skins,
    skin_with_handles,
)
from tests.slow import (
    all_bits, slow_class_of_ring, slow_contrary, slow_edge_of, slow_edges, slow_handles, slow_loops, slow_lots,
    slow_meetings,
)


def slow_left_ring(skin, number):
    """As the document walks it."""
    loop = slow_loops(skin)[number]
    start = slow_edges(skin)[slow_lots(skin)[2][number]]
    ring, pair = [], (start[0], (start[1] + 1) % 4)
    while pair != start:
        if slow_edge_of(skin, pair) not in loop:
            ring.append(pair)
            pair = slow_contrary(skin, pair)
        pair = (pair[0], (pair[1] + 1) % 4)
    return tuple(ring)


def slow_times(table, far):
    many = range(len(table))
    return tuple(tuple(sum(table[row][at] * far[at][own] for at in many) % 2 for own in many) for row in many)


def ones(many):
    return tuple(tuple(int(row == at) for at in range(many)) for row in range(many))


def drawn_table(rng, many):
    return tuple(drawn_bits(rng, many) for _ in range(many))


class LeftRingTest(unittest.TestCase):
    def test_as_it_is_walked(self):
        for skin in list(small_skins()) + many_skins(121, 4):
            for number in range(2 * slow_handles(skin)):
                ring = left_ring(skin, number)
                self.assertEqual(ring, slow_left_ring(skin, number))
                self.assertIs(is_ring(skin, ring), True)
                told = {slow_edge_of(skin, own) for own in ring}
                self.assertEqual(told & set(slow_loops(skin)[number]), set())

    def test_it_may_come_to_a_field_twice(self):
        fields = [field for field, _ in left_ring(THREE, 1)]
        self.assertEqual(fields, [0, 1, 1, 0, 2])

    def test_what_is_no_number_of_a_loop(self):
        for skin in (ONE, TWIN, PILLOW, BALL_OF_ONE, SIX, ring_of(12)):
            many = 2 * slow_handles(skin)
            for bad in (many, many + 1, -1, -many, 10 ** 30, True, False, None, "0", (0,), [0], 1.0):
                self.assertEqual(raised(left_ring, skin, bad), (Unfit, {}))
            self.assertEqual(raised(left_ring, skin[:-1] + ((),), 0), (Unfit, {}))


class TablesTest(unittest.TestCase):
    def test_the_meeting_table(self):
        for skin in list(small_skins()) + many_skins(122, 4):
            many = 2 * slow_handles(skin)
            table = meeting_table(skin)
            self.assertEqual(table, tuple(slow_class_of_ring(skin, slow_left_ring(skin, own)) for own in range(many)))
            self.check_alternating(table, many)

    def test_the_form(self):
        for skin in list(small_skins()) + many_skins(123, 4):
            many = 2 * slow_handles(skin)
            told = form(skin)
            self.check_alternating(told, many)
            self.assertEqual(slow_times(told, meeting_table(skin)), ones(many))
            self.assertEqual(slow_times(meeting_table(skin), told), ones(many))
            self.assertEqual(table_back(meeting_table(skin)), told)

    def check_alternating(self, table, many):
        self.assertIsInstance(table, tuple)
        self.assertEqual([len(row) for row in table], [many] * many)
        for at in range(many):
            self.assertIsInstance(table[at], tuple)
            self.assertEqual(table[at][at], 0)
            for far in range(many):
                self.assertIn(table[at][far], (0, 1))
                self.assertEqual(table[at][far], table[far][at])

    def test_without_handle(self):
        for skin in (PILLOW, BALL_OF_ONE, chain_of(12)):
            self.assertEqual((meeting_table(skin), form(skin)), ((), ()))
            self.assertEqual((meetings(skin, (), ()), class_that_meets(skin, ()), met_evenly(skin, ())), (0, (), [()]))
            self.assertEqual(rings_meet(skin, ((0, 0), skin[0][0]), ((0, 0), skin[0][0])), 0)

    def test_the_form_is_not_the_meeting_table(self):
        self.assertNotEqual(form(THREE), meeting_table(THREE))


class MeetingsTest(unittest.TestCase):
    def test_of_rings_by_one_pushed_to_its_left(self):
        rng = random.Random(124)
        for skin in many_skins(124, 5):
            for _ in range(4):
                ring, second = drawn_ring(rng, skin), drawn_ring(rng, skin)
                told = rings_meet(skin, ring, second)
                self.assertEqual(told, slow_meetings(skin, ring, second))
                self.assertEqual(rings_meet(skin, second, ring), told)
                classes = slow_class_of_ring(skin, ring), slow_class_of_ring(skin, second)
                self.assertEqual(meetings(skin, *classes), told)

    def test_of_classes(self):
        rng = random.Random(125)
        for skin in many_skins(125, 3):
            table = form(skin)
            many = range(2 * slow_handles(skin))
            for _ in range(4):
                one, other, more = (drawn_class(rng, skin) for _ in range(3))
                told = meetings(skin, one, other)
                wanted = sum(one[at] * table[at][far] * other[far] for at in many for far in many) % 2
                self.assertEqual(told, wanted)
                self.assertEqual(meetings(skin, other, one), told)
                self.assertEqual(meetings(skin, one, one), 0)
                both = put_together(skin, other, more)
                self.assertEqual(meetings(skin, one, both), (told + meetings(skin, one, more)) % 2)

    def test_simple_rings_without_a_common_field(self):
        rng = random.Random(126)
        found = 0
        for skin in many_skins(126, 4):
            for _ in range(6):
                ring, second = drawn_simple_ring(rng, skin), drawn_simple_ring(rng, skin)
                if not {field for field, _ in ring} & {field for field, _ in second}:
                    found += 1
                    self.assertEqual(rings_meet(skin, ring, second), 0)
        self.assertGreater(found, 20)

    def test_the_class_that_meets(self):
        rng = random.Random(127)
        for skin in many_skins(127, 3):
            many = 2 * slow_handles(skin)
            one = drawn_class(rng, skin)
            told = class_that_meets(skin, one)
            self.assertEqual(tuple(meetings(skin, told, unit) for unit in ones(many)), one)
            other = drawn_class(rng, skin)
            self.assertEqual(meetings(skin, told, other), sum(map(int.__mul__, one, other)) % 2)

    def test_met_evenly(self):
        rng = random.Random(128)
        for many, handles in ((1, 0), (1, 1), (2, 1), (3, 2), (4, 2), (5, 3), (12, 3)):
            skin = skin_with_handles(rng, many, handles)
            for one in [drawn_class(rng, skin) for _ in range(3)] + [(0,) * (2 * handles), (1,) * (2 * handles)]:
                told = met_evenly(skin, one)
                self.assertIsInstance(told, list)
                self.assertEqual(told, [own for own in all_bits(2 * handles) if meetings(skin, one, own) == 0])
                self.assertEqual(len(told), 4 ** handles // (2 if 1 in one else 1))
                self.assertIn(one, told)

    def test_too_many_handles(self):
        rng = random.Random(129)
        for many, handles in ((7, 4), (12, 4), (12, 6)):
            skin = skin_with_handles(rng, many, handles)
            one = drawn_class(rng, skin)
            self.assertEqual(raised(met_evenly, skin, one), (TooMany, {}))
            self.assertEqual(raised(met_evenly, skin, one[1:]), (Unfit, {}))
            self.assertEqual(meetings(skin, one, one), 0)
            self.assertEqual(len(form(skin)), 2 * handles)


class SquareTablesTest(unittest.TestCase):
    def test_times(self):
        rng = random.Random(130)
        for many in range(9):
            for _ in range(4):
                table, far = drawn_table(rng, many), drawn_table(rng, many)
                self.assertEqual(table_times(table, far), slow_times(table, far))
                self.assertEqual(table_times(ones(many), far), far)
                self.assertEqual(table_times(far, ones(many)), far)
        self.assertEqual(table_times(((1, 1), (0, 0)), ((0, 1), (1, 1))), ((1, 0), (0, 0)))
        self.assertEqual(table_times((), ()), ())

    def test_back_of_all_small_tables(self):
        for many in range(3):
            tables = list(itertools.product(all_bits(many), repeat=many))
            for table in tables:
                found = [own for own in tables if slow_times(own, table) == ones(many)]
                if found:
                    self.assertEqual([table_back(table)], found)
                else:
                    self.assertEqual(raised(table_back, table), (CanNot, {}))

    def test_back_of_all_tables_of_three_rows(self):
        found = []
        for table in itertools.product(all_bits(3), repeat=3):
            if raised(table_back, table)[0] is None:
                found.append(table)
                self.assertEqual(slow_times(table_back(table), table), ones(3))
            else:
                self.assertEqual(raised(table_back, table), (CanNot, {}))
        # So many have unlike rows, none (0, 0, 0), none two others added up.
        self.assertEqual(len(found), 7 * 6 * 4)

    def test_back_of_drawn_tables(self):
        rng = random.Random(131)
        found = 0
        for many in range(4, 13):
            for _ in range(12):
                table = drawn_table(rng, many)
                if raised(table_back, table)[0] is None:
                    found += 1
                    told = table_back(table)
                    self.assertEqual(slow_times(told, table), ones(many))
                    self.assertEqual(table_back(told), table)
                twice = table[:-1] + table[:1]
                self.assertEqual(raised(table_back, twice), (CanNot, {}))
        self.assertGreater(found, 10)

    def test_what_is_no_square_table(self):
        bad_tables = [
            None, 0, "", "1", (1,), ((),), ((1, 0),), ((1,), (0,)), ((1, 0), (0,)), ((1, 0), (0, 1), (1, 1)), ((2,),), ((-1,),),
            ((True,),), ((False,),), ((None,),), (("1",),), (((1,),),), ([[1]],), {0: 1}, ((1, 0), (0, True)), ((1, 0), None),
            ((1.0,),), (((),),),
        ]
        for bad in bad_tables:
            self.assertEqual(raised(table_back, bad), (Unfit, {}), bad)
            for good in ((), ((1,),), ((1, 0), (0, 1))):
                self.assertEqual(raised(table_times, bad, good), (Unfit, {}))
                self.assertEqual(raised(table_times, good, bad), (Unfit, {}))

    def test_tables_of_unlike_sizes(self):
        for one, other in itertools.permutations(range(4), 2):
            self.assertEqual(raised(table_times, ones(one), ones(other)), (Unfit, {}))

    def test_lists_for_tuples(self):
        self.assertEqual(table_times([[1, 1], (0, 1)], ([1, 0], [1, 1])), ((0, 1), (1, 1)))
        self.assertEqual(table_back([(1, 1), [0, 1]]), ((1, 1), (0, 1)))
        self.assertEqual(table_back([]), ())


class RefusalsTest(unittest.TestCase):
    def test_what_is_no_class(self):
        for bad in (None, 0, "00", (), (0,), (0, 0, 0), (0, 2), (0, -1), (0, True), (False, 0), (0, None), [0, [1]], {0: 1, 1: 0}):
            for function in (class_that_meets, met_evenly):
                self.assertEqual(raised(function, TWIN, bad), (Unfit, {}))
                self.assertEqual(raised(function, TWIN[:1], bad), (Unfit, {}))
            for good in ((0, 1), [1, 1]):
                self.assertEqual(raised(meetings, TWIN, bad, good), (Unfit, {}))
                self.assertEqual(raised(meetings, TWIN, good, bad), (Unfit, {}))
                self.assertEqual(raised(meetings, TWIN[:1], good, good), (Unfit, {}))

    def test_what_is_no_ring(self):
        for bad in (None, 0, (), ((0, 0),), ((0, 4),), ((0, True),), (0, 1), "01", [[0, 1], [1, 1]]):
            self.assertEqual(raised(rings_meet, TWIN, bad, ((0, 1),)), (Unfit, {}))
            self.assertEqual(raised(rings_meet, TWIN, ((0, 1),), bad), (Unfit, {}))
            self.assertEqual(raised(rings_meet, TWIN[:1], ((0, 1),), ((0, 1),)), (Unfit, {}))

    def test_what_is_no_skin(self):
        for bad in (None, 0, (), "skin", TWIN[:1], list(TWIN[:1]), ((),), (((0, 0),) * 4,)):
            for function in (meeting_table, form):
                self.assertEqual(raised(function, bad), (Unfit, {}))

    def test_of_one_corner_and_of_many(self):
        for skin in (ONE, ROW, QUAD):
            self.assertEqual(len(meeting_table(skin)), 2 * slow_handles(skin))


if __name__ == "__main__":
    unittest.main()
