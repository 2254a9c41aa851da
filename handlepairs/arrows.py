"""Arrows on the edges, against which rings go, and good ones.

Below the functions of the interface stand those that take what is already known to be fit.
"""

from handlepairs.bits import are_bits
from handlepairs.corners import crossings_round, handle_number, rounds
from handlepairs.errors import CanNot, Odd, Unfit
from handlepairs.given import as_tuples, check_from_0
from handlepairs.rings import fit_ring
from handlepairs.skins import SIDES, edge_numbers, fit_skin
from handlepairs.trees import corner_tree_lot, corner_ways, fit_lot, parted_by


def is_arrows(skin, thing):
    """Whether thing are ARROWS of the skin."""
    return are_arrows_of(fit_skin(skin), thing)


def against(skin, arrows, ring):
    """AGAINST of the ring."""
    told = fit_skin(skin)
    own = fit_arrows(told, arrows)
    return times_against(against_sides(told, own), fit_ring(told, ring)) % 2


def against_at(skin, arrows):
    """For each CORNER how many CROSSINGS of the RING round it go against the arrow."""
    told = fit_skin(skin)
    return corner_counts(told, fit_arrows(told, arrows))


def bad_corners(skin, arrows):
    """The set of the CORNERS round which evenly many CROSSINGS go against the arrow."""
    told = fit_skin(skin)
    return even_corners(told, fit_arrows(told, arrows))


def are_good(skin, arrows):
    """Whether the arrows are GOOD."""
    told = fit_skin(skin)
    return are_good_ones(told, fit_arrows(told, arrows))


def turned_lot(skin, arrows, lot):
    """The ARROWS with those of the EDGES of the lot turned."""
    told = fit_skin(skin)
    own = fit_arrows(told, arrows)
    return with_turned(own, fit_lot(told, lot))


def mended(skin, arrows):
    """The GOOD ARROWS that differ from the arrows at EDGES of the CORNER TREE alone."""
    told = fit_skin(skin)
    own = fit_arrows(told, arrows)
    check_even(told)
    return made_good(told, own)


def good_arrows(skin):
    """The GOOD ARROWS that are 0 at all EDGES but those of the CORNER TREE."""
    told = fit_skin(skin)
    check_even(told)
    return first_good(told)


def many_good(skin):
    """How many ARROWS are GOOD."""
    return good_number(fit_skin(skin))


def good_at(skin, number):
    """The GOOD ARROWS with the bits of the number at the EDGES that are not of the CORNER TREE."""
    told = fit_skin(skin)
    check_from_0(number)
    check_even(told)
    if number >= good_number(told):
        raise CanNot()
    bits = [0] * (2 * len(told))
    left = number
    for edge in free_edges(told):
        bits[edge] = left % 2
        left = left // 2
    return made_good(told, tuple(bits))


def number_of_good(skin, arrows):
    """The number by which good_at tells the arrows."""
    told = fit_skin(skin)
    own = fit_arrows(told, arrows)
    if not are_good_ones(told, own):
        raise CanNot()
    return sum([own[edge] << place for place, edge in enumerate(free_edges(told))])


def odd_reason(skin):
    """How many CORNERS and how many EDGES a skin with an odd number of FIELDS has."""
    told = fit_skin(skin)
    if len(told) % 2 == 0:
        raise CanNot()
    return (len(rounds(told)), 2 * len(told))


def fit_arrows(skin, arrows):
    """The arrows as a tuple; Unfit() if they are no ARROWS of the skin."""
    told = as_tuples(arrows, 1)
    if not are_arrows_of(skin, told):
        raise Unfit()
    return told


def fit_good_arrows(skin, arrows):
    """The arrows as a tuple; Unfit() if they are no GOOD ARROWS of the skin."""
    told = as_tuples(arrows, 1)
    if not are_good_arrows_of(skin, told):
        raise Unfit()
    return told


def check_even(skin):
    """Raises Odd() if the skin has an odd number of FIELDS."""
    if len(skin) % 2 == 1:
        raise Odd()


def are_arrows_of(skin, thing):
    """Whether thing is a tuple with a bit for each EDGE."""
    return are_bits(thing, 2 * len(skin))


def are_good_arrows_of(skin, thing):
    """Whether thing are GOOD ARROWS of the skin."""
    return are_arrows_of(skin, thing) and are_good_ones(skin, thing)


def against_sides(skin, arrows):
    """For each FIELD four bits: 1 where the CROSSING goes against the arrow."""
    numbers = edge_numbers(skin)
    return tuple([
        tuple([
            arrows[numbers[field][side]] if (field, side) < skin[field][side] else 1 - arrows[numbers[field][side]]
            for side in range(SIDES)
        ])
        for field in range(len(skin))
    ])


def times_against(sides, ring):
    """How many CROSSINGS of the RING go against the arrow, not by two; sides are those of against_sides."""
    return sum([sides[field][side] for field, side in ring])


def corner_counts(skin, arrows):
    """For each CORNER how many CROSSINGS of the RING round it go against the arrow."""
    sides = against_sides(skin, arrows)
    return tuple([times_against(sides, crossings_round(pairs)) for pairs in rounds(skin)])


def even_corners(skin, arrows):
    """The CORNERS round which evenly many CROSSINGS go against the arrow."""
    return tuple([corner for corner, many in enumerate(corner_counts(skin, arrows)) if many % 2 == 0])


def are_good_ones(skin, arrows):
    """Whether AGAINST of the RING round each CORNER is 1."""
    return len(even_corners(skin, arrows)) == 0


def with_turned(arrows, lot):
    """The ARROWS with those of the EDGES of the LOT turned."""
    return tuple([1 - bit if edge in lot else bit for edge, bit in enumerate(arrows)])


def made_good(skin, arrows):
    """The GOOD ARROWS that differ from these at EDGES of the CORNER TREE alone, FIELDS being evenly many."""
    ways = corner_ways(skin)
    # Ways from CORNER 0 to the bad ones, which are evenly many: added up by two they end at each of them, and
    # at CORNER 0 only if it is one of them.
    lot = ()
    for corner in even_corners(skin, arrows):
        lot = parted_by(lot, ways[corner])
    return with_turned(arrows, lot)


def first_good(skin):
    """What becomes of ARROWS that are all 0 if they are made good."""
    return made_good(skin, (0,) * (2 * len(skin)))


def free_edges(skin):
    """The EDGES that are not of the CORNER TREE, ascending."""
    tree = corner_tree_lot(skin)
    return [edge for edge in range(2 * len(skin)) if edge not in tree]


def good_number(skin):
    """How many ARROWS are GOOD: 4^h times 2^(F - 1), none for an odd F."""
    if len(skin) % 2 == 1:
        return 0
    return 1 << (2 * handle_number(skin) + len(skin) - 1)
