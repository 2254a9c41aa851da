"""What of a pairing sticks out at the left of simple rings, and q of these.

Below the functions of the interface stand those that take what is already known to be fit.
"""

from handlepairs.arrows import against_sides, fit_arrows, times_against
from handlepairs.errors import CanNot, TooMany
from handlepairs.pairings import fit_pairing
from handlepairs.rings import fit_ring, is_simple_ring
from handlepairs.skins import SIDES, edge_numbers, fit_skin

MOST_RINGS = 2000


def left_sides(skin, ring):
    """For each FIELD of the ring, in its order, the tuple of the SIDES at its left there."""
    told = fit_skin(skin)
    own = fit_ring(told, ring)
    check_simple(told, own)
    return sides_at_left(told, own)


def sticking_out(skin, ring, pairing):
    """The set of the FIELDS of the ring whose SIDE of the pairing is at its left there."""
    told = fit_skin(skin)
    own = fit_ring(told, ring)
    pairs = fit_pairing(told, pairing)
    check_simple(told, own)
    return fields_sticking_out(told, own, pairs)


def sticks(skin, ring, pairing):
    """STICKS of the ring by the pairing."""
    told = fit_skin(skin)
    own = fit_ring(told, ring)
    pairs = fit_pairing(told, pairing)
    check_simple(told, own)
    return len(fields_sticking_out(told, own, pairs))


def q_of_ring(skin, arrows, pairing, ring):
    """q of the ring by the arrows and the pairing."""
    told = fit_skin(skin)
    sides = against_sides(told, fit_arrows(told, arrows))
    pairs = fit_pairing(told, pairing)
    own = fit_ring(told, ring)
    check_simple(told, own)
    return ring_q(told, sides, pairs, own)


def simple_rings(skin):
    """The list, ascending, of all SIMPLE RINGS, each told from its least CROSSING on."""
    told = fit_skin(skin)
    found = []
    for start in range(len(told)):
        gather_rings(told, start, start, (), found)
    return sorted(found)


def check_simple(skin, ring):
    """Raises CanNot() if the RING is not SIMPLE."""
    if not is_simple_ring(skin, ring):
        raise CanNot()


def sides_at_left(skin, ring):
    """For each FIELD of the SIMPLE RING the SIDES at its left there."""
    came_by = [skin[field][side][1] for field, side in ring]
    # The first FIELD is the one to which the last CROSSING leads.
    came_by = came_by[-1:] + came_by[:-1]
    return tuple([sides_between(side, came) for (_, side), came in zip(ring, came_by)])


def sides_between(first, last):
    """The SIDES strictly between both, counter-clockwise from the first one on."""
    many = (last - first) % SIDES
    return tuple([(first + step) % SIDES for step in range(1, many)])


def fields_sticking_out(skin, ring, pairing):
    """The FIELDS of the SIMPLE RING whose SIDE of the PAIRING is at its left there."""
    numbers = edge_numbers(skin)
    fields = []
    for (field, _), sides in zip(ring, sides_at_left(skin, ring)):
        if any([numbers[field][side] in pairing for side in sides]):
            fields.append(field)
    return tuple(sorted(fields))


def ring_q(skin, sides, pairing, ring):
    """q of the SIMPLE RING by the PAIRING and by ARROWS of which against_sides has told the sides."""
    return (times_against(sides, ring) + 1 + len(fields_sticking_out(skin, ring, pairing))) % 2


def gather_rings(skin, start, field, way, found):
    """Adds to found the SIMPLE RINGS that begin with this way from start to field, start their least FIELD."""
    if field == start and way:
        if is_simple_ring(skin, way):
            found.append(way)
        if len(found) > MOST_RINGS:
            raise TooMany()
        return
    passed = [own for own, _ in way] + [field]
    # Not further where no way home is left: there may be far more ways than RINGS.
    if way and not leads_home(skin, start, field, passed):
        return
    for side, (there, _) in enumerate(skin[field]):
        if there == start or (there > start and there not in passed):
            gather_rings(skin, start, there, way + ((field, side),), found)


def leads_home(skin, start, field, passed):
    """Whether one comes from the field to start over FIELDS above start that are not passed."""
    met = {field: True}
    waiting = [field]
    while waiting:
        here = waiting.pop()
        for there, _ in skin[here]:
            if there == start:
                return True
            if there > start and there not in passed and there not in met:
                met[there] = True
                waiting.append(there)
    return False
