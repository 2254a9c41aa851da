"""Pairings by their numbers, told by counts alone, without going through them.

Below the functions of the interface stand those that take what is already known to be fit. Weighted kinds are those
of handlepairs.counts.
"""

from handlepairs.corners import check_handles
from handlepairs.counts import ones, sum_by_kinds, told_kinds, worths_with, worths_without
from handlepairs.errors import CanNot, TooMany, Unpaired
from handlepairs.given import check_from_0, is_ascending
from handlepairs.pairings import fit_pairing
from handlepairs.skins import fit_skin, joined_fields
from handlepairs.trees import fit_lot

MOST_TOLD = 100


def how_many_with(skin, lot, other):
    """How many PAIRINGS have all EDGES of the lot and none of the other one."""
    told = fit_skin(skin)
    own = fit_lot(told, lot)
    barred = fit_lot(told, other)
    check_handles(told)
    return count_with(told, told_kinds(told), own, barred)


def pairing_number(skin, pairing):
    """The number of the pairing, all standing ascending."""
    told = fit_skin(skin)
    own = fit_pairing(told, pairing)
    check_handles(told)
    return number_by_counts(told, told_kinds(told), own)


def pairing_at(skin, number):
    """The PAIRING with this number."""
    told = fit_skin(skin)
    check_from_0(number)
    check_handles(told)
    return only_one(pairings_behind(told, told_kinds(told), number, 1))


def least_pairing(skin):
    """The first PAIRING."""
    told = fit_skin(skin)
    check_handles(told)
    return end_pairing(told, told_kinds(told), 0)


def greatest_pairing(skin):
    """The last PAIRING."""
    told = fit_skin(skin)
    check_handles(told)
    weighted = told_kinds(told)
    return end_pairing(told, weighted, count_with(told, weighted, (), ()) - 1)


def next_pairing(skin, pairing):
    """The PAIRING behind this one."""
    told = fit_skin(skin)
    own = fit_pairing(told, pairing)
    check_handles(told)
    weighted = told_kinds(told)
    return only_one(pairings_behind(told, weighted, number_by_counts(told, weighted, own) + 1, 1))


def pairing_ahead(skin, pairing):
    """The PAIRING ahead of this one."""
    told = fit_skin(skin)
    own = fit_pairing(told, pairing)
    check_handles(told)
    weighted = told_kinds(told)
    number = number_by_counts(told, weighted, own)
    if number == 0:
        raise CanNot()
    return only_one(pairings_behind(told, weighted, number - 1, 1))


def pairings_from(skin, number, many):
    """The list of the PAIRINGS with this number and the next ones, at most so many."""
    told = fit_skin(skin)
    check_from_0(number, many)
    check_handles(told)
    if many > MOST_TOLD:
        raise TooMany()
    return pairings_behind(told, told_kinds(told), number, many)


def begun_with(skin, lot):
    """The tuple of the EDGES that come next behind those of the lot in some PAIRING that begins with these."""
    told = fit_skin(skin)
    own = fit_lot(told, lot)
    check_handles(told)
    weighted = told_kinds(told)
    start = own[-1] + 1 if own else 0
    return tuple([
        edge for edge in range(start, 2 * len(told)) if begun_count(told, weighted, own + (edge,), edge + 1) > 0
    ])


def only_one(found):
    """The one PAIRING that was found; CanNot() if there is none."""
    if not found:
        raise CanNot()
    return found[0]


def end_pairing(skin, weighted, number):
    """The PAIRING with the number of the first or the last one; Unpaired() if the skin has none."""
    if not weighted:
        raise Unpaired()
    return pairings_behind(skin, weighted, number, 1)[0]


def count_with(skin, weighted, lot, other):
    """How many PAIRINGS have all EDGES of the LOT and none of the other one."""
    # Where two of the LOT share a FIELD, each is worth 0 by the other one: so no PAIRING counts.
    return sum_by_kinds(skin, weighted, worths_without(worths_with(skin, ones(skin), lot), other))


def begun_count(skin, weighted, lot, edge):
    """How many PAIRINGS have all of the LOT, of lesser numbers than edge, and else none of a lesser number."""
    fields = joined_fields(skin)
    if not is_ascending(sorted([field for own in lot for field in fields[own]])):
        # Two of the LOT share a FIELD, or one of them joins a FIELD to itself.
        return 0
    return count_with(skin, weighted, lot, [own for own in range(edge) if own not in lot])


def number_by_counts(skin, weighted, pairing):
    """How many PAIRINGS stand ahead of this one."""
    number = 0
    start = 0
    for at, edge in enumerate(pairing):
        begun = pairing[:at]
        # Those that begin alike, less those of them that have no EDGE from start on below this one.
        number += begun_count(skin, weighted, begun, start) - begun_count(skin, weighted, begun, edge)
        start = edge + 1
    return number


def pairings_behind(skin, weighted, number, many):
    """The list of the PAIRINGS with this number and the next ones, at most so many, found EDGE by EDGE."""
    found = []
    ahead = number
    # What waits is a LOT, the next EDGE to be asked for, and how many PAIRINGS begin so; the first one stands last.
    waiting = [((), 0, begun_count(skin, weighted, (), 0))]
    while waiting and len(found) < many:
        lot, edge, count = waiting.pop()
        if count <= ahead:
            ahead = ahead - count
        elif 2 * len(lot) == len(skin):
            found.append(lot)
        else:
            longer = lot + (edge,)
            within = begun_count(skin, weighted, longer, edge + 1)
            waiting.append((lot, edge + 1, count - within))
            waiting.append((longer, edge + 1, within))
    return found
