"""Even lots, what they are crossed by, and the fewest arrows that lead from kind to kind.

Below the functions of the interface stand those that take what is already known to be fit. There the CLASSES are
told by their numbers, ascending from 0: a number's figures by two are the bits of its CLASS, so CLASSES are put
together by the sign ^.
"""

from handlepairs.arrows import are_good_arrows_of, fit_good_arrows, with_turned
from handlepairs.bits import added
from handlepairs.corners import check_handles, edge_ends, handle_number, rounds
from handlepairs.given import is_same
from handlepairs.kinds import kind_by_rings
from handlepairs.rings import fit_class
from handlepairs.skins import edge_numbers, fit_skin
from handlepairs.trees import all_handle_rings, fit_lot, is_lot_of_edges, parted_by


def is_even_lot(skin, thing):
    """Whether thing is an EVEN LOT of the skin."""
    return is_even_lot_of(fit_skin(skin), thing)


def crossed(skin, lot):
    """CROSSED of the lot."""
    told = fit_skin(skin)
    return crossed_by(told, fit_lot(told, lot))


def step_rows(skin):
    """The STEP ROWS of the skin."""
    told = fit_skin(skin)
    check_handles(told)
    return all_step_rows(told)


def are_step_rows(skin, thing):
    """Whether thing are the STEP ROWS of the skin."""
    told = fit_skin(skin)
    check_handles(told)
    return is_same(thing, all_step_rows(told))


def steps(skin):
    """The tuple with, for each CLASS, ascending, its STEPS."""
    told = fit_skin(skin)
    check_handles(told)
    return tuple([len(lot) for lot in least_lots(told)])


def lot_of(skin, kind):
    """An EVEN LOT with kind as its CROSSED, of as few EDGES as can be."""
    told = fit_skin(skin)
    own = fit_class(told, kind)
    check_handles(told)
    return least_lots(told)[class_number(own)]


def is_lot_of(skin, kind, thing):
    """Whether thing is an EVEN LOT with kind as its CROSSED, of as few EDGES as can be."""
    told = fit_skin(skin)
    own = fit_class(told, kind)
    check_handles(told)
    if not is_even_lot_of(told, thing) or crossed_by(told, thing) != own:
        return False
    return len(thing) == len(least_lots(told)[class_number(own)])


def fewest_turned(skin, arrows, kind):
    """How many of the arrows, GOOD ones, must be turned at least for GOOD ones of this KIND."""
    told = fit_skin(skin)
    own = fit_good_arrows(told, arrows)
    wanted = fit_class(told, kind)
    check_handles(told)
    return len(least_lot_to(told, own, wanted))


def kind_led(skin, arrows, kind):
    """GOOD ARROWS of this KIND that come from the arrows by as few turned as can be."""
    told = fit_skin(skin)
    own = fit_good_arrows(told, arrows)
    wanted = fit_class(told, kind)
    check_handles(told)
    return with_turned(own, least_lot_to(told, own, wanted))


def is_kind_led(skin, arrows, kind, thing):
    """Whether thing are GOOD ARROWS of this KIND that come from the arrows by as few turned as can be."""
    told = fit_skin(skin)
    own = fit_good_arrows(told, arrows)
    wanted = fit_class(told, kind)
    check_handles(told)
    if not are_good_arrows_of(told, thing) or kind_by_rings(told, thing) != wanted:
        return False
    return sum(added(own, thing)) == len(least_lot_to(told, own, wanted))


def is_even_lot_of(skin, thing):
    """Whether thing is a LOT of which at each CORNER evenly many EDGES end."""
    if not is_lot_of_edges(skin, thing):
        return False
    ends = edge_ends(skin)
    many = [0] * len(rounds(skin))
    for edge in thing:
        one, other = ends[edge]
        many[one] += 1
        many[other] += 1
    return all([own % 2 == 0 for own in many])


def crossed_by(skin, lot):
    """CROSSED of the LOT."""
    numbers = edge_numbers(skin)
    return tuple([
        len([side for field, side in ring if numbers[field][side] in lot]) % 2 for ring in all_handle_rings(skin)
    ])


def class_number(one):
    """The number of the CLASS, all being told ascending."""
    number = 0
    for bit in one:
        number = 2 * number + bit
    return number


def moves_from(skin):
    """For each CORNER the triples of an EDGE that ends there, its other end and the number of its CROSSED."""
    moves = [[] for _ in rounds(skin)]
    for edge, (one, other) in enumerate(edge_ends(skin)):
        number = class_number(crossed_by(skin, (edge,)))
        moves[one].append((edge, other, number))
        moves[other].append((edge, one, number))
    return moves


def walks_from(moves, start):
    """A shortest walk from the CORNER for each pair of a CLASS by which it is CROSSED and a CORNER where it ends."""
    walks = {(0, start): ()}
    waiting = [(0, start)]
    at = 0
    while at < len(waiting):
        crossing, corner = waiting[at]
        for edge, far, number in moves[corner]:
            reached = (crossing ^ number, far)
            if reached not in walks:
                walks[reached] = walks[(crossing, corner)] + (edge,)
                waiting.append(reached)
        at += 1
    return walks


def many_classes(skin):
    """How many CLASSES there are."""
    return 1 << (2 * handle_number(skin))


def all_step_rows(skin):
    """The STEP ROWS."""
    moves = moves_from(skin)
    rows = []
    for start in range(len(moves)):
        walks = walks_from(moves, start)
        rows.append(tuple([
            tuple([len(walks[(number, corner)]) for corner in range(len(moves))])
            for number in range(many_classes(skin))
        ]))
    return tuple(rows)


def counted_by_two(walk):
    """The LOT of the EDGES over which the walk goes an odd number of times."""
    lot = ()
    for edge in walk:
        lot = parted_by(lot, (edge,))
    return lot


def closed_lots(skin):
    """For each CLASS, ascending, the LOT of a shortest walk that comes home and is CROSSED so."""
    moves = moves_from(skin)
    least = {}
    for start in range(len(moves)):
        walks = walks_from(moves, start)
        for number in range(many_classes(skin)):
            lot = counted_by_two(walks[(number, start)])
            if number not in least or len(lot) < len(least[number]):
                least[number] = lot
    return [least[number] for number in range(len(least))]


def least_lots(skin):
    """For each CLASS, ascending, an EVEN LOT with it as CROSSED, of as few EDGES as can be."""
    # Such a LOT falls into walks that come home, each a shortest one of its CLASS, maybe far from one another.
    lots = closed_lots(skin)
    many = len(lots)
    has_changed = True
    while has_changed:
        has_changed = False
        for one in range(many):
            for other in range(one):
                both = parted_by(lots[one], lots[other])
                if len(both) < len(lots[one ^ other]):
                    lots[one ^ other] = both
                    has_changed = True
    return lots


def least_lot_to(skin, arrows, kind):
    """A LOT of as few EDGES as can be that, turned, makes of GOOD ARROWS ones of this KIND."""
    return least_lots(skin)[class_number(added(kind_by_rings(skin, arrows), kind))]
