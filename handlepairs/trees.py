"""The tree of the fields and that of the corners; what is loose, handle rings and loops.

Below the functions of the interface stand those that take what is already known to be fit.
"""

from handlepairs.corners import check_corner, edge_ends, rounds
from handlepairs.errors import Unfit
from handlepairs.given import as_tuples, check_numbers, is_set_below
from handlepairs.skins import check_field, edge_numbers, fit_skin, joined_fields, lesser_crossings


def is_lot(skin, thing):
    """Whether thing is a LOT of EDGES of the skin."""
    return is_lot_of_edges(fit_skin(skin), thing)


def tree_order(skin):
    """The tuple of the FIELDS in the order in which they are come to."""
    return grown_tree(fit_skin(skin))[0]


def come_by(skin):
    """For each FIELD the CROSSING of the FIELD TREE that leads to it; None for FIELD 0."""
    return grown_tree(fit_skin(skin))[1]


def way_to(skin, field):
    """The tuple of the CROSSINGS of the FIELD TREE from FIELD 0 to the field."""
    told = fit_skin(skin)
    check_numbers(field)
    check_field(told, field)
    return way_over(grown_tree(told)[1], field)


def field_tree(skin):
    """The set of the EDGES of the FIELD TREE."""
    return field_tree_lot(fit_skin(skin))


def corner_tree(skin):
    """The set of the EDGES of the CORNER TREE."""
    return corner_tree_lot(fit_skin(skin))


def corner_way(skin, corner, other):
    """The LOT of the EDGES of the CORNER TREE on the way from corner to other."""
    told = fit_skin(skin)
    check_numbers(corner, other)
    check_corner(told, corner)
    check_corner(told, other)
    ways = corner_ways(told)
    return parted_by(ways[corner], ways[other])


def joins_fields(skin, lot):
    """Whether one comes from each FIELD to each other one over EDGES of the lot alone."""
    told = fit_skin(skin)
    own = fit_lot(told, lot)
    pairs = joined_fields(told)
    return hang_together(len(told), [pairs[edge] for edge in own])


def joins_corners(skin, lot):
    """Whether one comes from each CORNER to each other one along EDGES of the lot alone."""
    told = fit_skin(skin)
    own = fit_lot(told, lot)
    pairs = edge_ends(told)
    return hang_together(len(rounds(told)), [pairs[edge] for edge in own])


def loose(skin):
    """The set of the LOOSE EDGES."""
    return loose_lot(fit_skin(skin))


def handle_rings(skin):
    """The tuple of the HANDLE RINGS, by the numbers of LOOSE EDGES."""
    return all_handle_rings(fit_skin(skin))


def loops(skin):
    """The tuple of the LOOPS, by the numbers of LOOSE EDGES."""
    return all_loops(fit_skin(skin))


def fit_lot(skin, lot):
    """The lot as a tuple; Unfit() if it is no LOT of EDGES of the skin."""
    told = as_tuples(lot, 1)
    if not is_lot_of_edges(skin, told):
        raise Unfit()
    return told


def is_lot_of_edges(skin, thing):
    """Whether thing is a set of numbers of EDGES of the skin."""
    return is_set_below(thing, 2 * len(skin))


def parted_by(one, other):
    """The LOT of the EDGES by which both LOTS part."""
    return tuple(sorted(set(one) ^ set(other)))


def grown_tree(skin):
    """The FIELDS in the order in which they are come to, and for each FIELD the CROSSING that leads to it."""
    order = [0]
    by = [None] * len(skin)
    at = 0
    while at < len(order):
        field = order[at]
        for side, (there, _) in enumerate(skin[field]):
            if there != 0 and by[there] is None:
                by[there] = (field, side)
                order.append(there)
        at += 1
    return tuple(order), tuple(by)


def way_over(by, field):
    """The CROSSINGS of the FIELD TREE from FIELD 0 to the field, by being told what leads to each FIELD."""
    way = []
    here = field
    while here != 0:
        way.append(by[here])
        here = by[here][0]
    return tuple(way[::-1])


def walked_back(skin, crossings):
    """The contraries of the crossings, the last one first."""
    return tuple([skin[field][side] for field, side in crossings[::-1]])


def field_tree_lot(skin):
    """The EDGES of the FIELD TREE."""
    numbers = edge_numbers(skin)
    _, by = grown_tree(skin)
    return tuple(sorted([numbers[field][side] for field, side in by[1:]]))


def corner_tree_lot(skin):
    """The EDGES of the CORNER TREE."""
    crossed = field_tree_lot(skin)
    groups = list(range(len(rounds(skin))))
    taken = []
    for edge, (one, other) in enumerate(edge_ends(skin)):
        if edge not in crossed and groups[one] != groups[other]:
            taken.append(edge)
            groups = put_in_one(groups, one, other)
    return tuple(taken)


def put_in_one(groups, one, other):
    """The groups, told number by number, with those of one and other made one."""
    kept, left = groups[one], groups[other]
    return [kept if group == left else group for group in groups]


def hang_together(many, pairs):
    """Whether the numbers below many all hang together by these pairs."""
    groups = list(range(many))
    for one, other in pairs:
        groups = put_in_one(groups, one, other)
    return all([group == groups[0] for group in groups])


def corner_ways(skin):
    """For each CORNER the EDGES of the CORNER TREE on the way to it from CORNER 0."""
    ends = edge_ends(skin)
    tree = corner_tree_lot(skin)
    ways = {0: ()}
    waiting = [0]
    while waiting:
        corner = waiting.pop()
        for edge in tree:
            if corner in ends[edge]:
                one, other = ends[edge]
                far = other if one == corner else one
                if far not in ways:
                    ways[far] = ways[corner] + (edge,)
                    waiting.append(far)
    return tuple([ways[corner] for corner in range(len(ways))])


def loose_lot(skin):
    """The EDGES of neither tree."""
    of_trees = field_tree_lot(skin) + corner_tree_lot(skin)
    return tuple([edge for edge in range(2 * len(skin)) if edge not in of_trees])


def all_handle_rings(skin):
    """The HANDLE RINGS, by the numbers of LOOSE EDGES."""
    _, by = grown_tree(skin)
    crossings = lesser_crossings(skin)
    return tuple([ring_closed_by(skin, by, crossings[edge]) for edge in loose_lot(skin)])


def ring_closed_by(skin, by, crossing):
    """The RING over this CROSSING and the FIELD TREE, from the last FIELD on that both ways have."""
    field, side = crossing
    out = way_over(by, field)
    home = way_over(by, skin[field][side][0])
    shared = 0
    while shared < min(len(out), len(home)) and out[shared] == home[shared]:
        shared += 1
    return out[shared:] + (crossing,) + walked_back(skin, home[shared:])


def all_loops(skin):
    """The LOOPS, by the numbers of LOOSE EDGES."""
    ends = edge_ends(skin)
    ways = corner_ways(skin)
    told = []
    for edge in loose_lot(skin):
        one, other = ends[edge]
        told.append(tuple(sorted((edge,) + parted_by(ways[one], ways[other]))))
    return tuple(told)
