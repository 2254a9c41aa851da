"""What the document tells of signs, marks, sums, even lots and steps, worked out once more: slowly."""

import functools
import itertools

from tests.slow import (
    all_bits, ends_evenly, slow_class_of_lot, slow_corners, slow_edge_of, slow_ends, slow_handle_rings, slow_handles,
    slow_joined, slow_meetings, slow_pairings, slow_q_of_ring, slow_sign,
)


def slow_q(skin, arrows, pairing, one):
    """q of the CLASS, as the document tells it."""
    rings = [ring for bit, ring in zip(one, slow_handle_rings(skin)) if bit]
    total = sum(slow_q_of_ring(skin, arrows, pairing, ring) for ring in rings)
    for at, ring in enumerate(rings):
        total += sum(slow_meetings(skin, ring, other) for other in rings[:at])
    return total % 2


def slow_mark(skin, arrows, pairing):
    row = [slow_q(skin, arrows, pairing, one) for one in all_bits(2 * slow_handles(skin))]
    return 1 if row.count(0) > row.count(1) else -1


def ways_in_pairs(numbers):
    """All ways to put the numbers in pairs, the lesser one of each ahead."""
    if not numbers:
        yield ()
    for at in range(1, len(numbers)):
        for rest in ways_in_pairs(numbers[1:at] + numbers[at + 1:]):
            yield ((numbers[0], numbers[at]),) + rest


def row_sign(row):
    turned = sum(row[one] > row[other] for one, other in itertools.combinations(range(len(row)), 2))
    return -1 if turned % 2 else 1


@functools.lru_cache(None)
def signed_ways(many):
    """All ways to put so many rows in pairs, with their signs; none for an odd number."""
    if many % 2:
        return []
    return [(way, row_sign([row for pair in way for row in pair])) for way in ways_in_pairs(tuple(range(many)))]


def slow_ways_sums(table):
    """For each way to put the rows in pairs what it gives to the PAIRED SUM."""
    for way, sign in signed_ways(len(table)):
        for one, other in way:
            sign *= table[one][other]
        yield way, sign


def slow_paired_sum(table):
    return sum(number for _, number in slow_ways_sums(table))


def slow_sums_by_pairs(table, row):
    told = [0] * len(table)
    for way, number in slow_ways_sums(table):
        for one, other in way:
            if row in (one, other):
                told[one + other - row] += number
    return tuple(told)


def slow_table(skin, arrows, worths):
    """The SIGNED TABLE, number by number."""
    def number(one, other):
        total = 0
        for edge in range(2 * len(skin)):
            ways = slow_joined(skin, edge)[::-1 if arrows[edge] else 1]
            total += worths[edge] * ((ways == (one, other)) - (ways == (other, one)))
        return total

    return tuple(tuple(number(one, other) for other in range(len(skin))) for one in range(len(skin)))


def slow_worth(worths, pairing):
    total = 1
    for edge in pairing:
        total *= worths[edge]
    return total


def slow_sum(skin, worths, fits=lambda pairing: True):
    """The WORTHS of all PAIRINGS that fit, added up."""
    return sum(slow_worth(worths, pairing) for pairing in slow_pairings(skin) if fits(pairing))


def slow_signed_sum(skin, arrows, worths):
    """The WORTHS of all PAIRINGS, each times its SIGN, added up."""
    return sum(slow_sign(skin, arrows, own) * slow_worth(worths, own) for own in slow_pairings(skin))


def slow_part(skin, worths, arrows, pairing):
    sign = slow_sign(skin, arrows, pairing)
    return slow_mark(skin, arrows, pairing) * sign * slow_signed_sum(skin, arrows, worths)


def slow_shares(skin, worths, pairing, fits=lambda pairing: True):
    """For each CLASS the worths of those PAIRINGS that part by it from the told one, added up."""
    told = {one: 0 for one in all_bits(2 * slow_handles(skin))}
    for own in slow_pairings(skin):
        if fits(own):
            told[slow_class_of_lot(skin, set(own) ^ set(pairing))] += slow_worth(worths, own)
    return tuple(sorted(told.items()))


def slow_crossed(skin, lot):
    return tuple(sum(slow_edge_of(skin, own) in lot for own in ring) % 2 for ring in slow_handle_rings(skin))


@functools.lru_cache(None)
def slow_even_lots(skin):
    """All EVEN LOTS with their CROSSED, by looking at all LOTS: for few FIELDS."""
    lots = [
        tuple(edge for edge, bit in enumerate(bits) if bit) for bits in all_bits(2 * len(skin))
    ]
    return [(lot, slow_crossed(skin, lot)) for lot in lots if ends_evenly(skin, lot)]


@functools.lru_cache(None)
def slow_lots_of_fields(skin):
    """All EVEN LOTS that are crossed by nothing: the edges of some FIELDS, counted by two."""
    sides = [[slow_edge_of(skin, (field, side)) for side in range(4)] for field in range(len(skin))]
    edges = [{edge for edge in row if row.count(edge) == 1} for row in sides]
    found = [set()]
    for own in edges:
        found += [lot ^ own for lot in found]
    return {frozenset(lot) for lot in found}


def slow_steps(skin):
    """STEPS of each CLASS, ascending."""
    wanted = all_bits(2 * slow_handles(skin))
    told = slow_even_lots(skin)
    return tuple(min(len(lot) for lot, own in told if own == one) for one in wanted)


def slow_step_rows(skin):
    """The STEP ROWS: what is come to by one step more and one more, by looking at all EDGES each time."""
    wanted = all_bits(2 * slow_handles(skin))
    corners = range(len(slow_corners(skin)))
    ends = slow_ends(skin)
    crossings = [slow_crossed(skin, (edge,)) for edge in range(2 * len(skin))]
    rows = []
    for start in corners:
        found = {(wanted[0], start): 0}
        steps = 0
        while len(found) < len(wanted) * len(corners):
            steps += 1
            for (one, here), _ in list(found.items()):
                for edge, (near, far) in enumerate(ends):
                    if here in (near, far):
                        there = near + far - here
                        both = tuple(a ^ b for a, b in zip(one, crossings[edge]))
                        found.setdefault((both, there), steps)
        rows.append(tuple(tuple(found[(one, corner)] for corner in corners) for one in wanted))
    return tuple(rows)
