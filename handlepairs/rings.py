"""Rings, which go from field to field, and their classes.

Below the functions of the interface stand those that take what is already known to be fit.
"""

from handlepairs.bits import added, are_bits, bit_rows, bits_apart
from handlepairs.corners import (
    check_corner, check_handles, crossings_round, edge_ends, handle_number, rounds,
)
from handlepairs.errors import CanNot, Unfit
from handlepairs.given import as_tuples, check_numbers
from handlepairs.skins import edge_numbers, fit_skin, is_crossing_below
from handlepairs.trees import all_handle_rings, all_loops, fit_lot, grown_tree, walked_back, way_over


def is_ring(skin, thing):
    """Whether thing is a RING of the skin."""
    return is_ring_of_skin(fit_skin(skin), thing)


def is_simple(skin, ring):
    """Whether the ring is SIMPLE."""
    told = fit_skin(skin)
    return is_simple_ring(told, fit_ring(told, ring))


def fields_of(skin, ring):
    """The tuple of the FIELDS of the ring's CROSSINGS."""
    return tuple([field for field, _ in fit_ring(fit_skin(skin), ring)])


def ring_round(skin, corner):
    """The RING round the corner."""
    told = fit_skin(skin)
    check_numbers(corner)
    check_corner(told, corner)
    return crossings_round(rounds(told)[corner])


def ring_back(skin, ring):
    """The ring walked back."""
    told = fit_skin(skin)
    return walked_back(told, fit_ring(told, ring))


def ring_from(skin, ring):
    """The least tuple of those in which the ring is begun at each of its CROSSINGS."""
    own = fit_ring(fit_skin(skin), ring)
    least = own
    for at in range(1, len(own)):
        least = min(least, own[at:] + own[:at])
    return least


def lot_of_ring(skin, ring):
    """The LOT of the EDGES over which the ring goes an odd number of times."""
    told = fit_skin(skin)
    return odd_edges(told, fit_ring(told, ring))


def class_of_lot(skin, lot):
    """The CLASS of the lot."""
    told = fit_skin(skin)
    return lot_class(told, fit_lot(told, lot))


def class_of_ring(skin, ring):
    """The CLASS of the ring."""
    told = fit_skin(skin)
    return ring_class(told, fit_ring(told, ring))


def put_together(skin, one, other):
    """Both CLASSES put together."""
    told = fit_skin(skin)
    return added(fit_class(told, one), fit_class(told, other))


def is_class(skin, thing):
    """Whether thing is a CLASS of the skin."""
    return is_class_of_skin(fit_skin(skin), thing)


def classes(skin):
    """The list of all CLASSES, ascending."""
    told = fit_skin(skin)
    check_handles(told)
    return all_classes(told)


def ring_of_class(skin, one):
    """A RING that begins at FIELD 0 and has this CLASS."""
    told = fit_skin(skin)
    own = fit_class(told, one)
    _, by = grown_tree(told)
    trip = ()
    for bit, ring in zip(own, all_handle_rings(told)):
        if bit == 1:
            way = way_over(by, ring[0][0])
            trip = trip + way + ring + walked_back(told, way)
    # Over a side and at once back, where no HANDLE RING is gone: a RING is never ().
    return trip if trip else ((0, 0), told[0][0])


def is_ring_of(skin, one, thing):
    """Whether thing is a RING, begun anywhere, with this CLASS."""
    told = fit_skin(skin)
    own = fit_class(told, one)
    return is_ring_of_skin(told, thing) and ring_class(told, thing) == own


def corners_within(skin, lot):
    """The set of CORNERS, without number 0, the RINGS round which go over just the lot an odd number of times."""
    told = fit_skin(skin)
    own = fit_lot(told, lot)
    # A RING round a CORNER goes over an EDGE as often as this ends there: so an EDGE is of the lot if just one
    # of its ends is at a CORNER of the set.
    joins = [(one, other, 1 if edge in own else 0) for edge, (one, other) in enumerate(edge_ends(told))]
    bits = bits_apart(len(rounds(told)), joins)
    if bits is None:
        raise CanNot()
    return tuple([corner for corner, bit in enumerate(bits) if bit == 1])


def fit_ring(skin, ring):
    """The ring, of tuples alone; Unfit() if it is no RING of the skin."""
    told = as_tuples(ring, 2)
    if not is_ring_of_skin(skin, told):
        raise Unfit()
    return told


def fit_class(skin, one):
    """The CLASS, or the KIND, as a tuple; Unfit() if it is none."""
    told = as_tuples(one, 1)
    if not is_class_of_skin(skin, told):
        raise Unfit()
    return told


def is_ring_of_skin(skin, thing):
    """Whether thing is a RING of the skin."""
    if not isinstance(thing, tuple) or len(thing) == 0:
        return False
    if not all([is_crossing_below(crossing, len(skin)) for crossing in thing]):
        return False
    fields = [field for field, _ in thing]
    return [skin[field][side][0] for field, side in thing] == fields[1:] + fields[:1]


def is_class_of_skin(skin, thing):
    """Whether thing is a tuple of two bits for each HANDLE."""
    return are_bits(thing, 2 * handle_number(skin))


def is_simple_ring(skin, ring):
    """Whether the FIELDS of the RING's CROSSINGS are unlike, and their EDGES, too."""
    numbers = edge_numbers(skin)
    fields = {field for field, _ in ring}
    crossed = {numbers[field][side] for field, side in ring}
    return len(fields) == len(ring) and len(crossed) == len(ring)


def odd_edges(skin, ring):
    """The LOT of the EDGES over which the RING goes an odd number of times."""
    numbers = edge_numbers(skin)
    bits = [0] * (2 * len(skin))
    for field, side in ring:
        edge = numbers[field][side]
        bits[edge] = 1 - bits[edge]
    return tuple([edge for edge, bit in enumerate(bits) if bit == 1])


def lot_class(skin, lot):
    """The CLASS of the LOT."""
    return tuple([len([edge for edge in loop if edge in lot]) % 2 for loop in all_loops(skin)])


def ring_class(skin, ring):
    """The CLASS of the RING."""
    return lot_class(skin, odd_edges(skin, ring))


def all_classes(skin):
    """The list of all CLASSES, ascending."""
    return bit_rows(2 * handle_number(skin))
