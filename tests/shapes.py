"""More named skins, and what is drawn of a skin: rings, lots, arrows, classes, pairings."""

import random

from tests.drawn import BALL_OF_ONE, ONE, PAIR, PILLOW, TWIN, drawn_skin, drawn_skins, grid, ring_of
from tests.slow import slow_handles, slow_pairings, step_home

TWINS = (((1, 0), (1, 1), (1, 2), (1, 3)), ((0, 0), (0, 1), (0, 2), (0, 3)))
ROW = (((1, 2), (0, 3), (1, 0), (0, 1)), ((0, 2), (2, 3), (0, 0), (2, 1)), ((2, 2), (1, 3), (2, 0), (1, 1)))
BAND = ring_of(4)
QUAD = grid(2, 2)
# Two handles, four fields, with pairings.
FOUR = (
    ((0, 2), (2, 3), (0, 0), (3, 2)), ((3, 3), (2, 2), (2, 0), (3, 0)),
    ((1, 2), (3, 1), (1, 1), (0, 1)), ((1, 3), (2, 1), (0, 3), (1, 0)),
)
# Two handles, one corner; the form is not the meeting table.
THREE = (
    ((1, 3), (2, 0), (2, 1), (2, 3)), ((1, 2), (2, 2), (1, 0), (0, 0)), ((0, 1), (0, 2), (1, 1), (0, 3)),
)
# Six fields, no pairing: 0 to 3 lie beside 4 and 5 alone.
SIX = (
    ((5, 2), (0, 3), (4, 1), (0, 1)), ((5, 0), (1, 2), (1, 1), (4, 3)), ((2, 2), (5, 3), (2, 0), (5, 1)),
    ((3, 2), (4, 2), (3, 0), (4, 0)), ((3, 3), (0, 2), (3, 1), (1, 3)), ((1, 0), (2, 3), (0, 0), (2, 1)),
)
# Twelve fields with just 2,000 simple rings, and with two more.
JUST_ENOUGH = (
    ((1, 3), (6, 0), (10, 1), (8, 0)), ((2, 2), (11, 1), (11, 0), (0, 0)), ((9, 2), (8, 3), (1, 0), (8, 1)),
    ((4, 1), (10, 2), (7, 1), (5, 0)), ((10, 3), (3, 0), (5, 1), (5, 2)), ((3, 3), (4, 2), (4, 3), (6, 1)),
    ((0, 1), (5, 3), (7, 0), (11, 3)), ((6, 2), (3, 2), (9, 1), (9, 0)), ((0, 3), (2, 3), (10, 0), (2, 1)),
    ((7, 3), (7, 2), (2, 0), (11, 2)), ((8, 2), (0, 2), (3, 1), (4, 0)), ((1, 2), (1, 1), (9, 3), (6, 3)),
)
TWO_MORE = (
    ((2, 2), (9, 3), (9, 1), (2, 3)), ((11, 2), (8, 2), (8, 0), (6, 0)), ((11, 1), (5, 3), (0, 0), (0, 3)),
    ((5, 2), (7, 3), (7, 2), (8, 1)), ((9, 2), (10, 2), (10, 1), (5, 1)), ((8, 3), (4, 3), (3, 0), (2, 1)),
    ((1, 3), (10, 3), (7, 1), (11, 3)), ((10, 0), (6, 2), (3, 2), (3, 1)), ((1, 2), (3, 3), (1, 1), (5, 0)),
    ((11, 0), (0, 2), (4, 0), (0, 1)), ((7, 0), (4, 2), (4, 1), (6, 1)), ((9, 0), (2, 0), (1, 0), (6, 3)),
)


def chain_of(many):
    """Fields in a row, each sewn to the next one by its sides 1 and 2: no handle."""
    rows = []
    for field in range(many):
        ahead = ((field - 1, 1), (field - 1, 2)) if field else ((0, 3), (0, 0))
        behind = ((field + 1, 0), (field + 1, 3)) if field + 1 < many else ((field, 2), (field, 1))
        rows.append((ahead[0], behind[0], behind[1], ahead[1]))
    return tuple(rows)


def lacking(lengths):
    """Four rows of fields, of these lengths, that hang together by two more fields alone: no pairing if all are odd."""
    rows, many = [], sum(lengths)
    ends = []
    for length in lengths:
        start = len(rows)
        ends.append(start)
        chain = [[(there + start, side) for there, side in row] for row in chain_of(length)]
        if length == 1:
            chain[0] = [None, (start, 2), (start, 1), None]
        rows += chain
    for at, start in enumerate(ends):
        rows[start][0], rows[start][3] = (many, at), (many + 1, 3 - at)
    rows.append([(start, 0) for start in ends])
    rows.append([(start, 3) for start in reversed(ends)])
    return tuple(tuple(row) for row in rows)


def named_skins():
    return [PILLOW, TWIN, PAIR, BALL_OF_ONE, ONE, TWINS, ROW, BAND, QUAD, FOUR, THREE, SIX, lacking((1, 1, 1, 1))]


def many_skins(seed, each=2):
    """The named ones, and drawn ones of 1 to 12 fields."""
    return named_skins() + list(drawn_skins(seed, each))


def even(skins):
    return [skin for skin in skins if len(skin) % 2 == 0]


def odd(skins):
    return [skin for skin in skins if len(skin) % 2 == 1]


def skin_with_handles(rng, many, handles):
    """A drawn SKIN of so many fields and handles."""
    while True:
        skin = drawn_skin(rng, many, rng.choice((handles, 2 * handles, 4 * many)) if handles else 0)
        if slow_handles(skin) == handles:
            return skin


def drawn_ring(rng, skin):
    """A RING: some steps, then a shortest way home."""
    start = rng.randrange(len(skin))
    field, ring = start, []
    for _ in range(rng.randrange(1, 7)):
        ring.append((field, rng.randrange(4)))
        field = skin[ring[-1][0]][ring[-1][1]][0]
    while field != start:
        ring.append(step_home(skin, field, start))
        field = skin[ring[-1][0]][ring[-1][1]][0]
    return tuple(ring)


def drawn_simple_ring(rng, skin):
    """A SIMPLE RING: a way on which loops are left out until one closes."""
    while True:
        field = rng.randrange(len(skin))
        way = []
        while field not in [own for own, _ in way]:
            way.append((field, rng.randrange(4)))
            field = skin[way[-1][0]][way[-1][1]][0]
        ring = tuple(way[[own for own, _ in way].index(field):])
        if len(ring) != 2 or skin[ring[0][0]][ring[0][1]] != ring[1]:
            return ring


def drawn_lot(rng, skin):
    share = rng.random()
    return tuple(edge for edge in range(2 * len(skin)) if rng.random() < share)


def drawn_bits(rng, many):
    return tuple(rng.randrange(2) for _ in range(many))


def drawn_arrows(rng, skin):
    return drawn_bits(rng, 2 * len(skin))


def drawn_class(rng, skin):
    return drawn_bits(rng, 2 * slow_handles(skin))


def drawn_fields(rng, skin):
    return tuple(field for field in range(len(skin)) if rng.randrange(2))


def drawn_pairing(rng, skin):
    """A PAIRING of a SKIN that has one."""
    return rng.choice(slow_pairings(skin))


def skins_with_pairings(rng, handles=(0, 1, 2, 3), each=3, fields=(2, 4, 6, 8)):
    """Drawn SKINS that have PAIRINGS, so many each of some numbers of fields and handles."""
    for many in fields:
        for own in handles:
            found = 0
            while found < each and own <= many // 2:
                skin = skin_with_handles(rng, many, own)
                if slow_pairings(skin):
                    found += 1
                    yield skin


def skin_with_pairing(rng, many, handles):
    """A drawn SKIN of so many fields and handles that has PAIRINGS."""
    while True:
        skin = skin_with_handles(rng, many, handles)
        if slow_pairings(skin):
            return skin


def with_pairings(seed, each=1, handles=(0, 1, 2, 3)):
    """Named SKINS and drawn ones that have PAIRINGS, of these numbers of handles."""
    rng = random.Random(seed)
    own = [TWIN, PILLOW, QUAD, FOUR, grid(3, 4), chain_of(12)]
    return [skin for skin in own if slow_handles(skin) in handles] + list(skins_with_pairings(rng, handles, each))


def drawn_number(rng):
    """A number of a size that WORTHS may have: often 0, small ones, the greatest and the least."""
    return rng.choice((0, 0, 1, -1, 1, 10 ** 6, -10 ** 6, rng.randrange(-9, 10), rng.randrange(-10 ** 6, 10 ** 6 + 1)))


def drawn_worths(rng, skin):
    return tuple(drawn_number(rng) for _ in range(2 * len(skin)))


def drawn_table(rng, many):
    """A signed table of so many rows."""
    rows = [[0] * many for _ in range(many)]
    for one in range(many):
        for other in range(one):
            rows[one][other] = drawn_number(rng)
            rows[other][one] = -rows[one][other]
    return tuple(tuple(row) for row in rows)
