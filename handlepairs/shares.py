"""The worths of all pairings parted by the classes by which these part from a told one.

Below the functions of the interface stand those that take what is already known to be fit.
"""

from handlepairs.corners import check_handles
from handlepairs.counts import ones, sum_by_kinds, told_kinds, worths_with
from handlepairs.given import check_numbers, is_same
from handlepairs.kinds import good_of_kinds
from handlepairs.marks import class_qs, handle_qs
from handlepairs.meetings import form_table
from handlepairs.pairings import fit_pairing
from handlepairs.rings import all_classes, fit_class
from handlepairs.skins import check_edge, fit_skin
from handlepairs.tables import fit_worths, pairing_sign, sum_over_pairs, table_by_arrows


def shares(skin, worths, pairing):
    """The tuple of the pairs of a CLASS and its share beside the pairing, CLASSES ascending."""
    told = fit_skin(skin)
    own = fit_worths(told, worths)
    pairs = fit_pairing(told, pairing)
    check_handles(told)
    return all_shares(told, own, pairs)


def is_shares(skin, worths, pairing, thing):
    """Whether thing is what shares tells."""
    told = fit_skin(skin)
    own = fit_worths(told, worths)
    pairs = fit_pairing(told, pairing)
    check_handles(told)
    return is_same(thing, all_shares(told, own, pairs))


def share_of(skin, worths, pairing, one):
    """The share of the CLASS beside the pairing."""
    told = fit_skin(skin)
    own = fit_worths(told, worths)
    pairs = fit_pairing(told, pairing)
    asked = fit_class(told, one)
    check_handles(told)
    return [share for other, share in all_shares(told, own, pairs) if other == asked][0]


def shares_with(skin, worths, pairing, edge):
    """The pairs of a CLASS and its share beside the pairing, of those PAIRINGS alone that have the EDGE."""
    told = fit_skin(skin)
    own = fit_worths(told, worths)
    pairs = fit_pairing(told, pairing)
    check_numbers(edge)
    check_edge(told, edge)
    check_handles(told)
    return all_shares(told, worths_with(told, own, (edge,)), pairs)


def edge_shares(skin, worths):
    """The tuple with, for each EDGE, the WORTHS of the PAIRINGS that have it, added up."""
    told = fit_skin(skin)
    own = fit_worths(told, worths)
    check_handles(told)
    weighted = told_kinds(told)
    return tuple([
        sum_by_kinds(told, weighted, worths_with(told, own, (edge,))) for edge in range(2 * len(told))
    ])


def met_classes(skin, pairing):
    """The set of the CLASSES by which some PAIRING parts from the pairing."""
    told = fit_skin(skin)
    pairs = fit_pairing(told, pairing)
    check_handles(told)
    return tuple([one for one, share in all_shares(told, ones(told), pairs) if share > 0])


def all_shares(skin, worths, pairing):
    """The tuple of the pairs of a CLASS and its share beside the PAIRING, CLASSES ascending."""
    table = form_table(skin)
    told = all_classes(skin)
    totals = [0] * len(told)
    for arrows in good_of_kinds(skin, told):
        number = pairing_sign(skin, arrows, pairing) * sum_over_pairs(table_by_arrows(skin, arrows, worths))
        # The SIGN of a PAIRING beside the told one is turned exactly if q of the CLASS by which both part is 1.
        for place, q in enumerate(class_qs(skin, table, handle_qs(skin, arrows, pairing))):
            totals[place] += -number if q == 1 else number
    return tuple([(one, total // len(told)) for one, total in zip(told, totals)])
