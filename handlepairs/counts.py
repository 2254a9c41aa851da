"""The worths of all pairings added up, by the paired sums of one signed table for each kind.

Below the functions of the interface stand those that take what is already known to be fit. What they call weighted
kinds are, for each KIND, ascending, GOOD ARROWS of it and the number by which the PAIRED SUM of their table counts.
"""

from handlepairs.arrows import fit_good_arrows
from handlepairs.corners import check_handles, handle_number
from handlepairs.given import check_numbers
from handlepairs.kinds import good_of_kinds
from handlepairs.marks import class_qs, counted_mark, handle_qs
from handlepairs.meetings import form_table
from handlepairs.pairings import first_pairing, fit_pairing
from handlepairs.rings import all_classes
from handlepairs.skins import check_edge, fit_skin, joined_fields
from handlepairs.tables import fit_worths, pairing_sign, sum_over_pairs, table_by_arrows
from handlepairs.trees import fit_lot


def how_many(skin):
    """How many PAIRINGS there are."""
    told = fit_skin(skin)
    check_handles(told)
    return sum_of_all(told, ones(told))


def sum_of(skin, worths):
    """The WORTHS of all PAIRINGS added up."""
    told = fit_skin(skin)
    own = fit_worths(told, worths)
    check_handles(told)
    return sum_of_all(told, own)


def part_of(skin, worths, arrows, pairing):
    """The part of the worths, the arrows, GOOD ones, and the pairing."""
    told = fit_skin(skin)
    own = fit_worths(told, worths)
    good = fit_good_arrows(told, arrows)
    pairs = fit_pairing(told, pairing)
    check_handles(told)
    return part_by_weight(told, own, good, weight(told, form_table(told), good, pairs))


def parts(skin, worths, pairing):
    """The tuple of the parts of GOOD ARROWS of all KINDS, these ascending."""
    told = fit_skin(skin)
    own = fit_worths(told, worths)
    pairs = fit_pairing(told, pairing)
    check_handles(told)
    return tuple(all_parts(told, weighted_kinds(told, pairs), own))


def sum_without(skin, worths, lot):
    """The WORTHS of the PAIRINGS that have no EDGE of the lot, added up."""
    told = fit_skin(skin)
    own = fit_worths(told, worths)
    barred = fit_lot(told, lot)
    check_handles(told)
    return sum_of_all(told, worths_without(own, barred))


def sum_with(skin, worths, edge):
    """The WORTHS of the PAIRINGS that have the EDGE, added up."""
    told = fit_skin(skin)
    own = fit_worths(told, worths)
    check_numbers(edge)
    check_edge(told, edge)
    check_handles(told)
    return sum_of_all(told, worths_with(told, own, (edge,)))


def ways_of(skin, lot):
    """How many PAIRINGS have all EDGES of the lot."""
    told = fit_skin(skin)
    own = fit_lot(told, lot)
    check_handles(told)
    return sum_of_all(told, worths_with(told, ones(told), own))


def ones(skin):
    """WORTHS that are all 1."""
    return (1,) * (2 * len(skin))


def worths_without(worths, lot):
    """The WORTHS with 0 on the EDGES of the LOT: so PAIRINGS with one of these are worth 0."""
    return tuple([0 if edge in lot else worth for edge, worth in enumerate(worths)])


def worths_with(skin, worths, lot):
    """The WORTHS with 0 on all EDGES that share a FIELD with one of the LOT but this itself.

    So PAIRINGS without one of the LOT are worth 0: nothing else is left for its FIELDS.
    """
    fields = joined_fields(skin)
    barred = [
        edge for edge, both in enumerate(fields)
        if any([own != edge and (both[0] in fields[own] or both[1] in fields[own]) for own in lot])
    ]
    return worths_without(worths, barred)


def weight(skin, table, arrows, pairing):
    """MARK times SIGN of GOOD ARROWS and the PAIRING, the table being the FORM."""
    sign = pairing_sign(skin, arrows, pairing)
    return sign * counted_mark(class_qs(skin, table, handle_qs(skin, arrows, pairing)))


def weighted_kinds(skin, pairing):
    """The list of pairs of GOOD ARROWS, one of each KIND, and their MARK times SIGN by the PAIRING."""
    table = form_table(skin)
    rows = good_of_kinds(skin, all_classes(skin))
    return [(arrows, weight(skin, table, arrows, pairing)) for arrows in rows]


def told_kinds(skin):
    """The weighted kinds by some PAIRING; [] if there is none."""
    pairing = first_pairing(skin)
    return [] if pairing is None else weighted_kinds(skin, pairing)


def part_by_weight(skin, worths, arrows, number):
    """The part of WORTHS and ARROWS, the number being MARK times SIGN."""
    return number * sum_over_pairs(table_by_arrows(skin, arrows, worths))


def all_parts(skin, weighted, worths):
    """The list of the parts of these WORTHS, KINDS ascending."""
    return [part_by_weight(skin, worths, arrows, number) for arrows, number in weighted]


def sum_by_parts(skin, told):
    """The WORTHS of all PAIRINGS added up, by the parts of all KINDS, of which there are none without a PAIRING."""
    return sum(told) // (1 << handle_number(skin))


def sum_by_kinds(skin, weighted, worths):
    """The WORTHS of all PAIRINGS added up, by the weighted kinds."""
    return sum_by_parts(skin, all_parts(skin, weighted, worths))


def sum_of_all(skin, worths):
    """The WORTHS of all PAIRINGS added up."""
    return sum_by_kinds(skin, told_kinds(skin), worths)
