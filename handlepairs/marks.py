"""q of classes, and the mark of arrows and a pairing, told in several ways.

Below the functions of the interface stand those that take what is already known to be fit.
"""

from handlepairs.arrows import against_sides, fit_arrows, fit_good_arrows
from handlepairs.bits import added
from handlepairs.corners import check_handles, handle_number
from handlepairs.given import is_tuple_of
from handlepairs.kinds import good_of_kinds, kind_by_rings
from handlepairs.meetings import class_meeting, form_table, met, unit_classes
from handlepairs.pairings import fit_pairing
from handlepairs.rings import all_classes, fit_class, is_class_of_skin
from handlepairs.skins import fit_skin
from handlepairs.sticks import ring_q
from handlepairs.trees import all_handle_rings


def q_of_class(skin, arrows, pairing, one):
    """q of the CLASS by the arrows and the pairing."""
    told = fit_skin(skin)
    own = fit_arrows(told, arrows)
    pairs = fit_pairing(told, pairing)
    asked = fit_class(told, one)
    return class_q(form_table(told), handle_qs(told, own, pairs), asked)


def q_row(skin, arrows, pairing):
    """The tuple of q of all CLASSES, ascending."""
    told = fit_skin(skin)
    own = fit_arrows(told, arrows)
    pairs = fit_pairing(told, pairing)
    check_handles(told)
    return class_qs(told, form_table(told), handle_qs(told, own, pairs))


def mark(skin, arrows, pairing):
    """The MARK of the arrows and the pairing, by counting all CLASSES."""
    told = fit_skin(skin)
    own = fit_arrows(told, arrows)
    pairs = fit_pairing(told, pairing)
    check_handles(told)
    return counted_mark(class_qs(told, form_table(told), handle_qs(told, own, pairs)))


def mark_by_pairs(skin, arrows, pairing):
    """The MARK of the arrows and the pairing, by paired CLASSES."""
    told = fit_skin(skin)
    own = fit_arrows(told, arrows)
    return paired_mark(told, own, fit_pairing(told, pairing))


def paired_classes(skin):
    """Paired CLASSES."""
    told = fit_skin(skin)
    return classes_in_pairs(form_table(told), unit_classes(told))


def is_paired_classes(skin, thing):
    """Whether thing are paired CLASSES."""
    told = fit_skin(skin)
    if not is_tuple_of(thing, handle_number(told)):
        return False
    if not all([is_tuple_of(pair, 2) for pair in thing]):
        return False
    if not all([is_class_of_skin(told, own) for pair in thing for own in pair]):
        return False
    return are_met_in_pairs(form_table(told), thing)


def class_moved(skin, kind, other):
    """The CLASS whose MEETINGS with each other tell where it has 1 and both KINDS are unlike."""
    told = fit_skin(skin)
    own = fit_class(told, kind)
    return class_meeting(told, added(own, fit_class(told, other)))


def mark_moved(skin, arrows, pairing, other):
    """The MARK of GOOD ARROWS of the KIND other with the pairing, by the MARK of the arrows, GOOD ones."""
    told = fit_skin(skin)
    own = fit_good_arrows(told, arrows)
    pairs = fit_pairing(told, pairing)
    kind = fit_class(told, other)
    moved = class_meeting(told, added(kind_by_rings(told, own), kind))
    turning = class_q(form_table(told), handle_qs(told, own, pairs), moved)
    return paired_mark(told, own, pairs) * (-1 if turning == 1 else 1)


def marks(skin, pairing):
    """The tuple of the MARKS of GOOD ARROWS of all KINDS, these ascending."""
    told = fit_skin(skin)
    pairs = fit_pairing(told, pairing)
    check_handles(told)
    table = form_table(told)
    # A skin with a PAIRING has evenly many FIELDS, so there are GOOD ARROWS of each KIND.
    rows = good_of_kinds(told, all_classes(told))
    return tuple([counted_mark(class_qs(told, table, handle_qs(told, own, pairs))) for own in rows])


def marks_one(skin):
    """How many KINDS have the MARK 1: 2^(h - 1) times (2^h + 1), 1 for h 0."""
    many = 1 << handle_number(fit_skin(skin))
    return many * (many + 1) // 2


def handle_qs(skin, arrows, pairing):
    """The tuple of q of the HANDLE RINGS."""
    sides = against_sides(skin, arrows)
    return tuple([ring_q(skin, sides, pairing, ring) for ring in all_handle_rings(skin)])


def class_q(table, values, one):
    """q of the CLASS, the table being the FORM and the values q of the HANDLE RINGS."""
    places = [place for place, bit in enumerate(one) if bit == 1]
    own = sum([values[place] for place in places])
    # HANDLE RING j has the CLASS that is 1 at j alone: so MEETINGS of two of these stand in the FORM itself.
    meeting = sum([table[place][far] for place in places for far in places if place < far])
    return (own + meeting) % 2


def class_qs(skin, table, values):
    """The tuple of q of all CLASSES, ascending."""
    return tuple([class_q(table, values, one) for one in all_classes(skin)])


def counted_mark(row):
    """1 if more of the row are 0 than 1, else -1."""
    return 1 if row.count(0) > row.count(1) else -1


def paired_mark(skin, arrows, pairing):
    """The MARK by paired CLASSES."""
    table = form_table(skin)
    values = handle_qs(skin, arrows, pairing)
    both = [
        class_q(table, values, one) * class_q(table, values, other)
        for one, other in classes_in_pairs(table, unit_classes(skin))
    ]
    return 1 if sum(both) % 2 == 0 else -1


def classes_in_pairs(table, units):
    """Paired CLASSES made of these, which have all others as sums; the table is the FORM."""
    left = units
    pairs = []
    while left:
        one = left[0]
        other = [own for own in left if met(table, one, own) == 1][0]
        pairs.append((one, other))
        left = [cleared(table, one, other, own) for own in left if own not in (one, other)]
    return tuple(pairs)


def cleared(table, one, other, own):
    """The CLASS own with one and other put to it where it needs them to have MEETINGS 0 with both of the pair."""
    told = own
    if met(table, own, other) == 1:
        told = added(told, one)
    if met(table, own, one) == 1:
        told = added(told, other)
    return told


def are_met_in_pairs(table, pairs):
    """Whether MEETINGS of both CLASSES of each pair are 1, of any two others of them 0."""
    row = [own for pair in pairs for own in pair]
    for at, one in enumerate(row):
        for far, other in enumerate(row):
            wanted = 1 if at // 2 == far // 2 and at != far else 0
            if met(table, one, other) != wanted:
                return False
    return True
