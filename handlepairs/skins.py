"""Skins: square fields sewn together side by side.

Below the functions of the interface stand those that take what is already known to be fit.
"""

from handlepairs.errors import NoEdge, NoField, Unfit
from handlepairs.given import as_tuples, check_numbers, is_below, is_set_below, is_tuple_of

SIDES = 4


def is_skin(thing):
    """Whether thing is a SKIN."""
    return has_skin_form(thing) and is_sewn_back(thing) and hangs_together(thing)


def is_crossing(skin, thing):
    """Whether thing is a CROSSING of the skin."""
    return is_crossing_below(thing, len(fit_skin(skin)))


def edges(skin):
    """The list of the EDGES, each as the lesser one of its CROSSINGS, by their numbers."""
    return lesser_crossings(fit_skin(skin))


def edge_of(skin, crossing):
    """The number of the EDGE of the crossing."""
    told = fit_skin(skin)
    field, side = fit_crossing(told, crossing)
    return edge_numbers(told)[field][side]


def contrary(skin, crossing):
    """The CROSSING to which the crossing is sewn."""
    told = fit_skin(skin)
    field, side = fit_crossing(told, crossing)
    return told[field][side]


def joined(skin, edge):
    """The FIELDS from and to which the lesser CROSSING of the edge leads."""
    told = fit_skin(skin)
    check_numbers(edge)
    check_edge(told, edge)
    return joined_fields(told)[edge]


def edges_at(skin, field):
    """The numbers of the EDGES of the field's four SIDES."""
    told = fit_skin(skin)
    check_numbers(field)
    check_field(told, field)
    return edge_numbers(told)[field]


def neighbours(skin, field):
    """The set of the other FIELDS to which the field leads."""
    told = fit_skin(skin)
    check_numbers(field)
    check_field(told, field)
    return tuple(sorted({there for there, _ in told[field] if there != field}))


def edges_joining(skin, field, other):
    """The set of the numbers of the EDGES between both fields."""
    told = fit_skin(skin)
    check_numbers(field, other)
    check_field(told, field)
    check_field(told, other)
    both = ((field, other), (other, field))
    return tuple([edge for edge, fields in enumerate(joined_fields(told)) if fields in both])


def renamed(skin, order, turns):
    """The SKIN renamed: FIELD order[i] becomes FIELD i, its SIDE turns[i] becomes SIDE 0."""
    told = fit_skin(skin)
    return sewn_by_names(told, fit_order(told, order), fit_turns(told, turns))


def edge_names(skin, order, turns):
    """The tuple with, for each EDGE of the skin, its number in the SKIN renamed."""
    told = fit_skin(skin)
    places = fit_order(told, order)
    shifts = fit_turns(told, turns)
    names = new_names(places, shifts)
    numbers = edge_numbers(sewn_by_names(told, places, shifts))
    new_crossings = [names[field][side] for field, side in lesser_crossings(told)]
    return tuple([numbers[field][side] for field, side in new_crossings])


def fit_skin(skin):
    """The skin, of tuples alone; Unfit() if it is none."""
    told = as_tuples(skin, 3)
    if not is_skin(told):
        raise Unfit()
    return told


def fit_crossing(skin, crossing):
    """The crossing as a tuple; Unfit() if the skin has no such CROSSING."""
    told = as_tuples(crossing, 1)
    if not is_crossing_below(told, len(skin)):
        raise Unfit()
    return told


def fit_order(skin, order):
    """The order as a tuple; Unfit() if it has not each FIELD of the skin once."""
    told = as_tuples(order, 1)
    many = len(skin)
    if not is_tuple_of(told, many) or not all([is_below(field, many) for field in told]):
        raise Unfit()
    if sorted(told) != list(range(many)):
        raise Unfit()
    return told


def fit_turns(skin, turns):
    """The turns as a tuple; Unfit() if they are not a SIDE for each FIELD of the skin."""
    told = as_tuples(turns, 1)
    if not is_tuple_of(told, len(skin)) or not all([is_below(side, SIDES) for side in told]):
        raise Unfit()
    return told


def fit_fields(skin, fields):
    """The set of FIELDS as a tuple; Unfit() if it is none of FIELDS of the skin."""
    told = as_tuples(fields, 1)
    if not is_set_below(told, len(skin)):
        raise Unfit()
    return told


def check_field(skin, field):
    """Raises NoField(field) if the skin has no FIELD of this number."""
    if field not in range(len(skin)):
        raise NoField(field)


def check_edge(skin, edge):
    """Raises NoEdge(edge) if the skin has no EDGE of this number."""
    if edge not in range(2 * len(skin)):
        raise NoEdge(edge)


def has_skin_form(thing):
    """Whether thing is a tuple, not (), of tuples of four CROSSINGS each."""
    if not isinstance(thing, tuple) or len(thing) == 0:
        return False
    return all([is_field_row(row, len(thing)) for row in thing])


def is_field_row(thing, many):
    """Whether thing is a tuple of four CROSSINGS of so many FIELDS."""
    return is_tuple_of(thing, SIDES) and all([is_crossing_below(crossing, many) for crossing in thing])


def is_crossing_below(thing, many):
    """Whether thing is a pair of a FIELD, of so many, and a SIDE."""
    return is_tuple_of(thing, 2) and is_below(thing[0], many) and is_below(thing[1], SIDES)


def is_sewn_back(rows):
    """Whether each CROSSING is sewn to another one that is sewn to it."""
    for field, row in enumerate(rows):
        for side, (there, at) in enumerate(row):
            if (there, at) == (field, side) or rows[there][at] != (field, side):
                return False
    return True


def hangs_together(rows):
    """Whether one comes from FIELD 0 to each other one."""
    met = [True] + [False] * (len(rows) - 1)
    waiting = [0]
    while waiting:
        field = waiting.pop()
        for there, _ in rows[field]:
            if not met[there]:
                met[there] = True
                waiting.append(there)
    return all(met)


def lesser_crossings(skin):
    """The lesser CROSSING of each EDGE, ascending."""
    return [
        (field, side)
        for field, row in enumerate(skin)
        for side, crossing in enumerate(row)
        if (field, side) < crossing
    ]


def edge_numbers(skin):
    """For each FIELD the numbers of the EDGES of its four SIDES."""
    numbers = [[0] * SIDES for _ in skin]
    for edge, (field, side) in enumerate(lesser_crossings(skin)):
        there, at = skin[field][side]
        numbers[field][side] = edge
        numbers[there][at] = edge
    return tuple([tuple(row) for row in numbers])


def joined_fields(skin):
    """For each EDGE the FIELDS from and to which its lesser CROSSING leads."""
    return tuple([(field, skin[field][side][0]) for field, side in lesser_crossings(skin)])


def new_names(order, turns):
    """For each FIELD what the CROSSINGS of its SIDES 0 to 3 are called once renamed."""
    names = {}
    for place, (field, turn) in enumerate(zip(order, turns)):
        names[field] = tuple([(place, (side - turn) % SIDES) for side in range(SIDES)])
    return names


def sewn_by_names(skin, order, turns):
    """The skin renamed by an order and turns that are known to be fit."""
    names = new_names(order, turns)
    rows = []
    for field, turn in zip(order, turns):
        sewn_to = [skin[field][(side + turn) % SIDES] for side in range(SIDES)]
        rows.append(tuple([names[there][at] for there, at in sewn_to]))
    return tuple(rows)
