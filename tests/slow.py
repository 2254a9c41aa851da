"""What the document tells, worked out once more from its words: slowly, and by nothing of the package."""

import functools
import itertools


def slow_contrary(skin, crossing):
    return skin[crossing[0]][crossing[1]]


@functools.lru_cache(None)
def slow_edges(skin):
    """The lesser CROSSINGS, ascending."""
    crossings = [(field, side) for field in range(len(skin)) for side in range(4)]
    return sorted({min(own, slow_contrary(skin, own)) for own in crossings})


def slow_edge_of(skin, crossing):
    return slow_edges(skin).index(min(crossing, slow_contrary(skin, crossing)))


def slow_joined(skin, edge):
    """The pair of FIELDS that the EDGE joins."""
    lesser = slow_edges(skin)[edge]
    return lesser[0], slow_contrary(skin, lesser)[0]


@functools.lru_cache(None)
def slow_corners(skin):
    """The CORNERS as sets of pairs: those are put together that sides sewn to one another make one point."""
    place = {(field, side): {(field, side)} for field in range(len(skin)) for side in range(4)}

    def put_together(one, other):
        if place[one] is not place[other]:
            both = place[one] | place[other]
            for pair in both:
                place[pair] = both

    for field, row in enumerate(skin):
        for side, (there, at) in enumerate(row):
            put_together((field, side), (there, (at + 1) % 4))
            put_together((field, (side + 1) % 4), (there, at))
    return sorted({frozenset(own) for own in place.values()}, key=min)


def slow_handles(skin):
    return (2 - (len(slow_corners(skin)) - len(skin))) // 2


@functools.lru_cache(None)
def slow_ends(skin):
    """For each EDGE the CORNERS at which it ends."""
    told = slow_corners(skin)

    def at(pair):
        return next(number for number, pairs in enumerate(told) if pair in pairs)

    return tuple((at((field, side)), at((field, (side + 1) % 4))) for field, side in slow_edges(skin))


def slow_fields_hang_together(skin, lot):
    return hang_together(range(len(skin)), [slow_joined(skin, edge) for edge in lot])


def slow_corners_hang_together(skin, lot):
    return hang_together(range(len(slow_corners(skin))), [slow_ends(skin)[edge] for edge in lot])


def hang_together(numbers, pairs):
    """Whether one comes from the first number to each other one."""
    return reached(numbers[0], pairs) == set(numbers)


def reached(start, pairs):
    """All to which one comes from start by these pairs, both ways."""
    met = {start}
    while True:
        more = met | {b for a, b in pairs if a in met} | {a for a, b in pairs if b in met}
        if more == met:
            return met
        met = more


@functools.lru_cache(None)
def slow_tree(skin):
    """The FIELDS in their order and the CROSSINGS of the FIELD TREE."""
    order, crossings = [0], []
    for field in order:
        for side in range(4):
            there, _ = skin[field][side]
            if there not in order:
                order.append(there)
                crossings.append((field, side))
    return order, crossings


@functools.lru_cache(None)
def slow_lots(skin):
    """The FIELD TREE, the CORNER TREE and the LOOSE EDGES, as lists."""
    of_fields = sorted(slow_edge_of(skin, own) for own in slow_tree(skin)[1])
    of_corners = []
    ends = slow_ends(skin)
    for edge in range(2 * len(skin)):
        one, other = ends[edge]
        if edge not in of_fields and other not in reached(one, [ends[own] for own in of_corners]):
            of_corners.append(edge)
    loose = [edge for edge in range(2 * len(skin)) if edge not in of_fields and edge not in of_corners]
    return of_fields, of_corners, loose


def ends_evenly(skin, lot):
    """Whether at each CORNER evenly many EDGES of the LOT end."""
    ends = [corner for edge in lot for corner in slow_ends(skin)[edge]]
    return all(ends.count(corner) % 2 == 0 for corner in ends)


@functools.lru_cache(None)
def slow_loops(skin):
    """The LOOPS: each the one LOT of its LOOSE EDGE and some of the CORNER TREE that ends evenly everywhere."""
    _, of_corners, loose = slow_lots(skin)
    found = []
    for edge in loose:
        own = [
            tuple(sorted((edge,) + some)) for many in range(len(of_corners) + 1)
            for some in itertools.combinations(of_corners, many) if ends_evenly(skin, (edge,) + some)
        ]
        assert len(own) == 1
        found += own
    return tuple(found)


@functools.lru_cache(None)
def slow_handle_rings(skin):
    """The HANDLE RINGS: of each LOOSE EDGE the ring over it and the FIELD TREE, found by going on all ways."""
    of_fields, _, loose = slow_lots(skin)
    order, _ = slow_tree(skin)
    rings = []
    for edge in loose:
        start = slow_edges(skin)[edge]
        back = way_in_tree(skin, of_fields, slow_contrary(skin, start)[0], start[0])
        ring = (start,) + back
        # It is told from the field that lies next to FIELD 0.
        at = min(range(len(ring)), key=lambda place: len(way_in_tree(skin, of_fields, 0, ring[place][0])))
        rings.append(ring[at:] + ring[:at])
    return tuple(rings)


def way_in_tree(skin, lot, start, goal):
    """The CROSSINGS of the one way over EDGES of the LOT, a tree, from start to goal."""
    ways = {start: ()}
    waiting = [start]
    for field in waiting:
        for side, (there, _) in enumerate(skin[field]):
            if there not in ways and slow_edge_of(skin, (field, side)) in lot:
                ways[there] = ways[field] + ((field, side),)
                waiting.append(there)
    return ways[goal]


def slow_is_ring(skin, thing):
    if not isinstance(thing, tuple) or not thing:
        return False
    for own in thing:
        if not isinstance(own, tuple) or len(own) != 2 or [type(number) for number in own] != [int, int]:
            return False
        if not (0 <= own[0] < len(skin) and 0 <= own[1] < 4):
            return False
    return all(
        slow_contrary(skin, thing[at - 1])[0] == thing[at][0] for at in range(len(thing))
    )


def slow_is_simple(skin, ring):
    told = [slow_edge_of(skin, own) for own in ring]
    return len(set(told)) == len(ring) and len({field for field, _ in ring}) == len(ring)


def slow_lot_of_ring(skin, ring):
    told = [slow_edge_of(skin, own) for own in ring]
    return tuple(sorted({edge for edge in told if told.count(edge) % 2}))


def slow_class_of_lot(skin, lot):
    return tuple(len(set(lot) & set(loop)) % 2 for loop in slow_loops(skin))


def slow_class_of_ring(skin, ring):
    return slow_class_of_lot(skin, slow_lot_of_ring(skin, ring))


def slow_ring_round(skin, corner):
    """The RING round the CORNER, walked from its least pair on."""
    pairs = slow_corners(skin)[corner]
    field, side = min(pairs)
    ring = []
    while len(ring) < len(pairs):
        ring.append((field, (side + 3) % 4))
        field, side = slow_contrary(skin, ring[-1])
    return tuple(ring)


def slow_goes_against(skin, arrows, crossing):
    """1 if the CROSSING goes against the arrow, else 0."""
    is_lesser = crossing < slow_contrary(skin, crossing)
    return arrows[slow_edge_of(skin, crossing)] if is_lesser else 1 - arrows[slow_edge_of(skin, crossing)]


def slow_against(skin, arrows, ring):
    """How many CROSSINGS go against the arrow, not by two."""
    return sum(slow_goes_against(skin, arrows, own) for own in ring)


def slow_is_good(skin, arrows):
    return all(
        slow_against(skin, arrows, slow_ring_round(skin, corner)) % 2
        for corner in range(len(slow_corners(skin)))
    )


def slow_kind(skin, arrows):
    return tuple(slow_against(skin, arrows, ring) % 2 for ring in slow_handle_rings(skin))


def slow_turned_at(skin, arrows, fields):
    """The ARROWS turned at one FIELD after another."""
    told = list(arrows)
    for field in fields:
        for edge in range(len(told)):
            both = slow_joined(skin, edge)
            if field in both and both[0] != both[1]:
                told[edge] = 1 - told[edge]
    return tuple(told)


def all_bits(many):
    return list(itertools.product((0, 1), repeat=many))


@functools.lru_cache(None)
def slow_all_good(skin):
    """All GOOD ARROWS, by looking at all ARROWS."""
    return [arrows for arrows in all_bits(2 * len(skin)) if slow_is_good(skin, arrows)]


@functools.lru_cache(None)
def slow_pairings(skin):
    """All PAIRINGS, by looking at all LOTS of as many EDGES."""
    if len(skin) % 2:
        return []
    fields = [slow_joined(skin, edge) for edge in range(2 * len(skin))]
    wanted = list(range(len(skin)))
    return [
        lot for lot in itertools.combinations(range(2 * len(skin)), len(skin) // 2)
        if sorted(itertools.chain.from_iterable(fields[edge] for edge in lot)) == wanted
    ]


def slow_sign(skin, arrows, pairing):
    """The SIGN of the PAIRING by the ARROWS."""
    row = []
    for edge in pairing:
        row += slow_joined(skin, edge)[::-1 if arrows[edge] else 1]
    turned = sum(row[one] > row[other] for one, other in itertools.combinations(range(len(row)), 2))
    return -1 if turned % 2 else 1


def sides_left(leaves, came):
    """The SIDES come to if one turns, counter-clockwise, from that by which a ring leaves to that by which it came."""
    told = []
    side = (leaves + 1) % 4
    while side != came:
        told.append(side)
        side = (side + 1) % 4
    return tuple(told)


def slow_left_sides(skin, ring):
    return tuple(sides_left(ring[at][1], slow_contrary(skin, ring[at - 1])[1]) for at in range(len(ring)))


def slow_sticks(skin, ring, pairing):
    """The FIELDS whose SIDE of the PAIRING is at the ring's left."""
    return [
        field for (field, _), sides in zip(ring, slow_left_sides(skin, ring))
        if any(slow_edge_of(skin, (field, side)) in pairing for side in sides)
    ]


def slow_q_of_ring(skin, arrows, pairing, ring):
    return (slow_against(skin, arrows, ring) + 1 + len(slow_sticks(skin, ring, pairing))) % 2


@functools.lru_cache(None)
def slow_simple_rings(skin):
    """All SIMPLE RINGS, by looking at each row of unlike FIELDS, the least one first."""
    found = []
    for many in range(1, len(skin) + 1):
        for row in itertools.permutations(range(len(skin)), many):
            if row[0] == min(row):
                found += rings_over(skin, row)
    return sorted(ring for ring in found if slow_is_simple(skin, ring))


def rings_over(skin, row):
    """All RINGS whose CROSSINGS have these FIELDS."""
    choices = [
        [(field, side) for side in range(4) if skin[field][side][0] == following]
        for field, following in zip(row, row[1:] + row[:1])
    ]
    return itertools.product(*choices)


def slow_pushed(skin, ring):
    """The LOT on to which a RING, simple or not, is pushed to its left, counted by two."""
    told = []
    for (field, leaves), before in zip(ring, ring[-1:] + ring[:-1]):
        came = slow_contrary(skin, before)[1]
        told += [slow_edge_of(skin, (field, side)) for side in sides_left_of_any(leaves, came)]
    return {edge for edge in told if told.count(edge) % 2}


def sides_left_of_any(leaves, came):
    """As sides_left, all three others where both are one."""
    return tuple((leaves + step) % 4 for step in (1, 2, 3)) if leaves == came else sides_left(leaves, came)


def slow_meetings(skin, ring, second):
    """By two, how often the second RING goes over what the first one is pushed on to."""
    pushed = slow_pushed(skin, ring)
    return sum(slow_edge_of(skin, own) in pushed for own in second) % 2


def slow_odd_parts(skin, fields):
    """The parts of oddly many FIELDS beside these, ascending."""
    left = [field for field in range(len(skin)) if field not in fields]
    pairs = [(field, there) for field in left for there, _ in skin[field] if there in left]
    parts = {tuple(sorted(reached(field, pairs))) for field in left}
    return tuple(sorted(part for part in parts if len(part) % 2))


def step_home(skin, field, start):
    """A CROSSING with which a shortest way from the field to start begins."""
    steps = {start: 0}
    waiting = [start]
    for here in waiting:
        for there, _ in skin[here]:
            if there not in steps:
                steps[there] = steps[here] + 1
                waiting.append(there)
    side = next(own for own in range(4) if steps[skin[field][own][0]] < steps[field])
    return field, side
