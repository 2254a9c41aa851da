"""Corners: where the sides of fields end; with them X of a skin and its handles.

Below the functions of the interface stand those that take what is already known to be fit.
"""

from handlepairs.errors import NoCorner, TooMany, Unfit
from handlepairs.given import check_numbers, is_below
from handlepairs.skins import SIDES, check_edge, check_field, edge_numbers, fit_skin, lesser_crossings

MOST_HANDLES = 3


def corners(skin):
    """The tuple of the CORNERS, each the tuple of the pairs of its ROUND."""
    return rounds(fit_skin(skin))


def corner_of(skin, field, side):
    """The CORNER that has the pair (field, side)."""
    told = fit_skin(skin)
    check_numbers(field)
    if not is_below(side, SIDES):
        raise Unfit()
    check_field(told, field)
    return corner_numbers(told)[field][side]


def corners_at(skin, field):
    """The tuple of the CORNERS with (field, 0) to (field, 3)."""
    told = fit_skin(skin)
    check_numbers(field)
    check_field(told, field)
    return corner_numbers(told)[field]


def ends_of(skin, edge):
    """The pair of the CORNERS at which the edge ends."""
    told = fit_skin(skin)
    check_numbers(edge)
    check_edge(told, edge)
    return edge_ends(told)[edge]


def corner_sizes(skin):
    """The tuple of how many pairs each CORNER has."""
    return tuple([len(pairs) for pairs in rounds(fit_skin(skin))])


def edges_round(skin, corner):
    """The tuple of the EDGES over which the RING round the corner goes, pair by pair."""
    told = fit_skin(skin)
    check_numbers(corner)
    check_corner(told, corner)
    numbers = edge_numbers(told)
    return tuple([numbers[field][side] for field, side in crossings_round(rounds(told)[corner])])


def sizes(skin):
    """The triple of how many FIELDS, EDGES, CORNERS there are."""
    told = fit_skin(skin)
    return (len(told), 2 * len(told), len(rounds(told)))


def x_of(skin):
    """X of the skin."""
    return x_number(fit_skin(skin))


def handles(skin):
    """How many HANDLES the skin has."""
    return handle_number(fit_skin(skin))


def check_corner(skin, corner):
    """Raises NoCorner(corner) if the skin has no CORNER of this number."""
    if corner not in range(len(rounds(skin))):
        raise NoCorner(corner)


def check_handles(skin):
    """Raises TooMany() if the skin has too many HANDLES for all CLASSES to be gone through."""
    if handle_number(skin) > MOST_HANDLES:
        raise TooMany()


def rounds(skin):
    """The CORNERS, as they are numbered."""
    told = []
    met = {}
    for field in range(len(skin)):
        for side in range(SIDES):
            if (field, side) not in met:
                pairs = round_from(skin, (field, side))
                for pair in pairs:
                    met[pair] = True
                told.append(pairs)
    return tuple(told)


def round_from(skin, start):
    """The ROUND that begins with this pair, as a tuple of pairs."""
    pairs = [start]
    pair = next_in_round(skin, start)
    while pair != start:
        pairs.append(pair)
        pair = next_in_round(skin, pair)
    return tuple(pairs)


def next_in_round(skin, pair):
    """The pair behind this one in its ROUND."""
    field, side = pair
    return skin[field][(side - 1) % SIDES]


def crossings_round(pairs):
    """The RING round the CORNER with these pairs."""
    return tuple([(field, (side - 1) % SIDES) for field, side in pairs])


def corner_numbers(skin):
    """For each FIELD the numbers of the CORNERS that have its four pairs."""
    numbers = [[0] * SIDES for _ in skin]
    for corner, pairs in enumerate(rounds(skin)):
        for field, side in pairs:
            numbers[field][side] = corner
    return tuple([tuple(row) for row in numbers])


def edge_ends(skin):
    """For each EDGE the pair of the CORNERS at which it ends."""
    numbers = corner_numbers(skin)
    return tuple([
        (numbers[field][side], numbers[field][(side + 1) % SIDES])
        for field, side in lesser_crossings(skin)
    ])


def x_number(skin):
    """CORNERS less FIELDS."""
    return len(rounds(skin)) - len(skin)


def handle_number(skin):
    """How many HANDLES there are."""
    return (2 - x_number(skin)) // 2
