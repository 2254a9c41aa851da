"""Kinds of arrows, and how arrows of one kind come from one another by fields turned.

Below the functions of the interface stand those that take what is already known to be fit.
"""

from handlepairs.arrows import (
    against_sides, check_even, first_good, fit_arrows, fit_good_arrows, times_against, with_turned,
)
from handlepairs.bits import added, bit_rows, bits_apart
from handlepairs.corners import check_handles, handle_number
from handlepairs.errors import CanNot, TooMany
from handlepairs.rings import all_classes, fit_class
from handlepairs.skins import fit_fields, fit_skin, joined_fields
from handlepairs.trees import all_handle_rings, all_loops

MOST_FIELDS_TURNED = 10


def kind_of(skin, arrows):
    """The KIND of the arrows, GOOD or not."""
    told = fit_skin(skin)
    return kind_by_rings(told, fit_arrows(told, arrows))


def turned_at(skin, arrows, fields):
    """The arrows turned at each of the fields, one after another."""
    told = fit_skin(skin)
    own = fit_arrows(told, arrows)
    turning = fit_fields(told, fields)
    return turned_by_bits(told, own, tuple([1 if field in turning else 0 for field in range(len(told))]))


def fields_between(skin, arrows, other):
    """The set of the fewest FIELDS such that the arrows turned at these are the other ones."""
    told = fit_skin(skin)
    own = fit_arrows(told, arrows)
    bits = bits_between(told, own, fit_arrows(told, other))
    if bits is None:
        raise CanNot()
    # Turned at all other FIELDS, the arrows come to the same.
    both = [tuple([field for field, bit in enumerate(bits) if bit == wanted]) for wanted in (0, 1)]
    return min([(len(fields), fields) for fields in both])[1]


def are_akin(skin, arrows, other):
    """Whether the other ARROWS come from the arrows by FIELDS turned."""
    told = fit_skin(skin)
    own = fit_arrows(told, arrows)
    return bits_between(told, own, fit_arrows(told, other)) is not None


def unlike_ring(skin, arrows, other):
    """The least number of a HANDLE RING at which AGAINST of both GOOD ARROWS is unlike."""
    told = fit_skin(skin)
    own = fit_good_arrows(told, arrows)
    far = fit_good_arrows(told, other)
    unlike = added(kind_by_rings(told, own), kind_by_rings(told, far))
    if 1 not in unlike:
        raise CanNot()
    return unlike.index(1)


def all_turned(skin, arrows):
    """The list, ascending, of all ARROWS that come of the arrows by FIELDS turned."""
    told = fit_skin(skin)
    own = fit_arrows(told, arrows)
    if len(told) > MOST_FIELDS_TURNED:
        raise TooMany()
    # FIELD 0 never: turned at all other FIELDS, the arrows come to the same as turned at these.
    return sorted([turned_by_bits(told, own, (0,) + bits) for bits in bit_rows(len(told) - 1)])


def arrows_of(skin, kind):
    """GOOD ARROWS of this KIND."""
    told = fit_skin(skin)
    own = fit_class(told, kind)
    check_even(told)
    return good_of_kinds(told, [own])[0]


def many_kinds(skin):
    """How many KINDS there are: 4^h."""
    return 1 << (2 * handle_number(fit_skin(skin)))


def all_kinds(skin):
    """The list of GOOD ARROWS, one of each KIND, KINDS ascending."""
    told = fit_skin(skin)
    check_even(told)
    check_handles(told)
    return good_of_kinds(told, all_classes(told))


def kind_by_rings(skin, arrows):
    """The KIND: AGAINST of the HANDLE RINGS."""
    sides = against_sides(skin, arrows)
    return tuple([times_against(sides, ring) % 2 for ring in all_handle_rings(skin)])


def turned_by_bits(skin, arrows, bits):
    """The ARROWS turned at the FIELDS that have the bit 1.

    The arrow of an EDGE from a FIELD to itself stays: its bit is added twice.
    """
    return tuple([bit ^ bits[one] ^ bits[other] for bit, (one, other) in zip(arrows, joined_fields(skin))])


def bits_between(skin, arrows, other):
    """For each FIELD whether to turn at it, so that the arrows come to be the other ones; None if they cannot."""
    joins = [(one, far, bit) for (one, far), bit in zip(joined_fields(skin), added(arrows, other))]
    return bits_apart(len(skin), joins)


def good_of_kinds(skin, kinds):
    """The list of GOOD ARROWS of each of these KINDS, FIELDS being evenly many."""
    start = first_good(skin)
    start_kind = kind_by_rings(skin, start)
    turning = all_loops(skin)
    told = []
    for kind in kinds:
        arrows = start
        for bit, loop in zip(added(start_kind, kind), turning):
            if bit == 1:
                # Turned at a LOOP they stay GOOD, and of the KIND this one bit is turned.
                arrows = with_turned(arrows, loop)
        told.append(arrows)
    return told
