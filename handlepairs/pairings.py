"""Pairings: the fields joined two by two over edges; lacks, and rings by which pairings part.

Below the functions of the interface stand those that take what is already known to be fit.
"""

from itertools import combinations

from handlepairs.errors import CanNot, TooMany, Unfit, Unpaired
from handlepairs.given import as_tuples, is_set_below
from handlepairs.rings import fit_ring, lot_class
from handlepairs.skins import edge_numbers, fit_fields, fit_skin, joined_fields, lesser_crossings
from handlepairs.trees import is_lot_of_edges, parted_by

MOST_FIELDS_TOLD = 8


def is_pairing(skin, thing):
    """Whether thing is a PAIRING of the skin."""
    return is_pairing_of(fit_skin(skin), thing)


def all_pairings(skin):
    """The list of all PAIRINGS, ascending."""
    told = fit_skin(skin)
    if len(told) > MOST_FIELDS_TOLD:
        raise TooMany()
    ways = ways_to_pair(links(told), tuple(range(len(told))))
    return sorted([tuple(sorted(way)) for way in ways])


def some_pairing(skin):
    """A PAIRING."""
    found = first_pairing(fit_skin(skin))
    if found is None:
        raise Unpaired()
    return found


def odd_parts(skin, fields):
    """The set of the parts beside the fields that have oddly many FIELDS, each a set."""
    told = fit_skin(skin)
    return odd_parts_beside(told, fit_fields(told, fields))


def lack(skin):
    """A set of FIELDS beside which there are more parts of oddly many FIELDS than it has FIELDS."""
    told = fit_skin(skin)
    # There is a lack only if there is no PAIRING, which is found sooner.
    if first_pairing(told) is not None:
        raise CanNot()
    return first_lack(told)


def is_lack(skin, thing):
    """Whether thing is a lack."""
    told = fit_skin(skin)
    return is_set_below(thing, len(told)) and is_lack_of(told, thing)


def parted(skin, pairing, other):
    """The set of the RINGS over whose EDGES just one of both PAIRINGS goes."""
    told = fit_skin(skin)
    own = fit_pairing(told, pairing)
    lot = parted_by(own, fit_pairing(told, other))
    crossings = lesser_crossings(told)
    numbers = edge_numbers(told)
    found = []
    met = {}
    for edge in lot:
        if edge not in met:
            ring = ring_over(told, lot, crossings[edge])
            for field, side in ring:
                met[numbers[field][side]] = True
            found.append(ring)
    return tuple(found)


def class_between(skin, pairing, other):
    """The CLASS of the LOT by which both PAIRINGS part."""
    told = fit_skin(skin)
    own = fit_pairing(told, pairing)
    return lot_class(told, parted_by(own, fit_pairing(told, other)))


def moved_along(skin, pairing, ring):
    """The PAIRING without the EDGES of the ring that it has, with those that it has not."""
    told = fit_skin(skin)
    own = fit_pairing(told, pairing)
    numbers = edge_numbers(told)
    moved = parted_by(own, tuple([numbers[field][side] for field, side in fit_ring(told, ring)]))
    if not is_pairing_of(told, moved):
        raise CanNot()
    return moved


def fit_pairing(skin, pairing):
    """The pairing as a tuple; Unfit() if it is no PAIRING of the skin."""
    told = as_tuples(pairing, 1)
    if not is_pairing_of(skin, told):
        raise Unfit()
    return told


def is_pairing_of(skin, thing):
    """Whether thing is a LOT of EDGES with each FIELD of just one: so they join unlike FIELDS."""
    if not is_lot_of_edges(skin, thing):
        return False
    fields = joined_fields(skin)
    return sorted([field for edge in thing for field in fields[edge]]) == list(range(len(skin)))


def links(skin):
    """For each FIELD the pairs of another FIELD and an EDGE to it, SIDE by SIDE."""
    numbers = edge_numbers(skin)
    return tuple([
        tuple([(there, numbers[field][side]) for side, (there, _) in enumerate(row) if there != field])
        for field, row in enumerate(skin)
    ])


def without(fields, one, other):
    """The FIELDS but for these two."""
    return tuple([field for field in fields if field not in (one, other)])


def ways_to_pair(linked, left):
    """The list of all ways to pair the FIELDS that are left, each a tuple of EDGES."""
    if not left:
        return [()]
    ways = []
    for other, edge in linked[left[0]]:
        if other in left:
            ways.extend([(edge,) + way for way in ways_to_pair(linked, without(left, left[0], other))])
    return ways


def first_pairing(skin):
    """A PAIRING; None if there is none."""
    if len(skin) % 2 == 1:
        return None
    way = way_to_pair(links(skin), tuple(range(len(skin))), {})
    return None if way is None else tuple(sorted(way))


def way_to_pair(linked, left, hopeless):
    """A way to pair the FIELDS that are left, as a tuple of EDGES; None if there is none.

    hopeless keeps what was left where no way was found, so that none is looked for there again.
    """
    if not left:
        return ()
    if left in hopeless:
        return None
    for other, edge in linked[left[0]]:
        if other in left:
            way = way_to_pair(linked, without(left, left[0], other), hopeless)
            if way is not None:
                return (edge,) + way
    hopeless[left] = True
    return None


def odd_parts_beside(skin, fields):
    """The parts of oddly many FIELDS into which all FIELDS but these fall, ascending."""
    met = {field: True for field in fields}
    parts = []
    for start in range(len(skin)):
        if start not in met:
            part = part_from(skin, start, fields)
            for field in part:
                met[field] = True
            if len(part) % 2 == 1:
                parts.append(part)
    return tuple(parts)


def part_from(skin, start, fields):
    """The set of the FIELDS to which ways lead from start past none of these fields."""
    met = {start: True}
    waiting = [start]
    while waiting:
        field = waiting.pop()
        for there, _ in skin[field]:
            if there not in met and there not in fields:
                met[there] = True
                waiting.append(there)
    return tuple(sorted(met))


def is_lack_of(skin, fields):
    """Whether there are more parts of oddly many FIELDS beside these fields than they are."""
    return len(odd_parts_beside(skin, fields)) > len(fields)


def first_lack(skin):
    """A lack of as few FIELDS as can be; there is one in each skin without a PAIRING."""
    for many in range(len(skin)):
        for fields in combinations(range(len(skin)), many):
            if is_lack_of(skin, fields):
                return fields
    return None


def ring_over(skin, lot, start):
    """The RING over EDGES of the LOT that begins with this CROSSING, each FIELD having none or two of them."""
    numbers = edge_numbers(skin)
    ring = [start]
    came_to, came_by = skin[start[0]][start[1]]
    while came_to != start[0]:
        side = [own for own, edge in enumerate(numbers[came_to]) if edge in lot and own != came_by][0]
        ring.append((came_to, side))
        came_to, came_by = skin[came_to][side]
    return tuple(ring)
