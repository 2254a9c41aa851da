"""How often, by two, classes meet: left rings, the meeting table and the form.

Below the functions of the interface stand those that take what is already known to be fit.
"""

from handlepairs.bits import are_bits, both_by_two, lone_bit, row_times, times, turned_back
from handlepairs.corners import check_handles, handle_number
from handlepairs.errors import CanNot, Unfit
from handlepairs.given import as_tuples, is_below
from handlepairs.rings import all_classes, fit_class, fit_ring, ring_class
from handlepairs.skins import SIDES, edge_numbers, fit_skin, lesser_crossings
from handlepairs.trees import all_loops, loose_lot


def left_ring(skin, number):
    """The LEFT RING of the LOOP of this number."""
    told = fit_skin(skin)
    if not is_below(number, 2 * handle_number(told)):
        raise Unfit()
    return all_left_rings(told)[number]


def meeting_table(skin):
    """The MEETING TABLE."""
    return left_classes(fit_skin(skin))


def form(skin):
    """The FORM."""
    return form_table(fit_skin(skin))


def meetings(skin, one, other):
    """MEETINGS of both CLASSES."""
    told = fit_skin(skin)
    own = fit_class(told, one)
    return met(form_table(told), own, fit_class(told, other))


def rings_meet(skin, ring, second):
    """MEETINGS of the CLASSES of both RINGS."""
    told = fit_skin(skin)
    own = fit_ring(told, ring)
    far = fit_ring(told, second)
    return met(form_table(told), ring_class(told, own), ring_class(told, far))


def class_that_meets(skin, one):
    """The CLASS that has the bits of one as MEETINGS with the CLASSES that are 1 at one place alone."""
    told = fit_skin(skin)
    return class_meeting(told, fit_class(told, one))


def met_evenly(skin, one):
    """The list, ascending, of the CLASSES with MEETINGS 0 with one."""
    told = fit_skin(skin)
    own = fit_class(told, one)
    check_handles(told)
    table = form_table(told)
    return [other for other in all_classes(told) if met(table, own, other) == 0]


def table_times(table, far_table):
    """The table times the far one, by two."""
    own = fit_table(table)
    far = fit_table(far_table)
    if len(far) != len(own):
        raise Unfit()
    return times(own, far)


def table_back(table):
    """The table that, times this one, by two, has 1 at (j, j) for each j, else 0."""
    told = turned_back(fit_table(table))
    if told is None:
        raise CanNot()
    return told


def fit_table(table):
    """The square table, of tuples alone; Unfit() if it is none."""
    told = as_tuples(table, 2)
    if not isinstance(told, tuple) or not all([are_bits(row, len(told)) for row in told]):
        raise Unfit()
    return told


def all_left_rings(skin):
    """The LEFT RINGS, by the numbers of LOOPS."""
    crossings = lesser_crossings(skin)
    return tuple([
        ring_left_of(skin, loop, crossings[edge]) for edge, loop in zip(loose_lot(skin), all_loops(skin))
    ])


def ring_left_of(skin, loop, start):
    """The RING along the left of the LOOP, start being the lesser CROSSING of its LOOSE EDGE."""
    numbers = edge_numbers(skin)
    ring = []
    pair = behind(start)
    while pair != start:
        field, side = pair
        if numbers[field][side] in loop:
            pair = behind(pair)
        else:
            ring.append(pair)
            pair = behind(skin[field][side])
    return tuple(ring)


def behind(pair):
    """The pair with the next SIDE of the FIELD, counter-clockwise."""
    field, side = pair
    return (field, (side + 1) % SIDES)


def left_classes(skin):
    """The CLASSES of the LEFT RINGS: the MEETING TABLE."""
    return tuple([ring_class(skin, ring) for ring in all_left_rings(skin)])


def form_table(skin):
    """The FORM."""
    return turned_back(left_classes(skin))


def met(table, one, other):
    """MEETINGS of both CLASSES, the table being the FORM."""
    return both_by_two(row_times(one, table), other)


def class_meeting(skin, one):
    """The CLASS that has the bits of one as MEETINGS with the CLASSES that are 1 at one place alone.

    Such a CLASS times the FORM is one: so it is one times the MEETING TABLE.
    """
    return row_times(one, left_classes(skin))


def unit_classes(skin):
    """The list of the CLASSES that are 1 at one place alone, by that place."""
    many = 2 * handle_number(skin)
    return [lone_bit(at, many) for at in range(many)]
