"""For each function of the interface, what its arguments are; what is handed in for each kind, and what is unfit."""

import functools
import importlib
import random

from handlepairs.arrows import good_arrows
from handlepairs.trees import loops
from tests.drawn import PAIR, PILLOW, TWIN, drawn_skins, odd_things, raised
from tests.shapes import (
    FOUR, ONE, QUAD, SIX, drawn_arrows, drawn_class, drawn_fields, drawn_lot, drawn_ring, drawn_simple_ring, drawn_table,
    drawn_worths, skin_with_handles,
)
from tests.slow import slow_corners, slow_handles, slow_pairings
from tests.test_interface import FUNCTIONS

PIECES = [("ab", 0), ("-1", 2), ("c", 2)]

# What a name stands for, unless OWN says otherwise.
MEANS = {
    "skin": "skin", "thing": "thing", "text": "text", "pieces": "pieces", "piece": "piece", "crossing": "crossing",
    "edge": "edge", "field": "field", "side": "side", "corner": "corner", "order": "order", "turns": "turns",
    "lot": "lot", "ring": "ring", "second": "ring", "one": "class", "kind": "class", "arrows": "arrows",
    "fields": "fields", "pairing": "pairing", "table": "table", "far_table": "table", "worths": "worths",
    "many": "many", "sheet": "sheet", "demand": "demand", "demands": "demands",
}
# Kinds that are drawn of a skin, though none is handed in by itself.
OF_A_SKIN = ("skin", "sheet", "demand", "demands")
OWN = {
    ("piece_of", "number"): "any number", ("good_at", "number"): "number", ("left_ring", "number"): "loop number",
    ("edges_joining", "other"): "field", ("corner_way", "other"): "corner", ("put_together", "other"): "class",
    ("meetings", "other"): "class", ("class_moved", "other"): "class", ("mark_moved", "other"): "class",
    ("fields_between", "other"): "arrows", ("are_akin", "other"): "arrows", ("unlike_ring", "other"): "arrows",
    ("parted", "other"): "pairing", ("class_between", "other"): "pairing",
    ("left_sides", "ring"): "simple ring", ("sticking_out", "ring"): "simple ring", ("sticks", "ring"): "simple ring",
    ("q_of_ring", "ring"): "simple ring",
    ("unlike_ring", "arrows"): "good arrows", ("mark_moved", "arrows"): "good arrows",
    ("paired_sum", "table"): "signed table", ("struck", "table"): "signed table", ("struck", "fields"): "rows",
    ("turned_table", "table"): "signed table", ("turned_table", "fields"): "rows",
    ("row_added", "table"): "signed table", ("row_added", "field"): "row", ("row_added", "other"): "other row",
    ("row_added", "number"): "added number", ("sum_by_pairs", "table"): "signed table", ("sum_by_pairs", "field"): "row",
    ("fewest_turned", "arrows"): "good arrows", ("kind_led", "arrows"): "good arrows",
    ("is_kind_led", "arrows"): "good arrows", ("part_of", "arrows"): "good arrows",
    ("how_many_with", "other"): "lot", ("pairing_at", "number"): "number", ("pairings_from", "number"): "number",
    ("read_sheet", "text"): "sheet text", ("read_skin", "text"): "sheet text",
}


def kind_of_argument(name, argument):
    return OWN.get((name, argument)) or MEANS[argument]


def functions_with_kinds():
    """(function, kinds of its arguments) of each function of the interface that has landed."""
    for module_name, functions in FUNCTIONS.items():
        module = importlib.import_module("handlepairs." + module_name)
        for name, arguments in functions.items():
            yield getattr(module, name), [kind_of_argument(name, own) for own in arguments.split()]


def some_skins():
    """Skins of many sizes, with handles, more than 3 of them, and without."""
    rng = random.Random(31)
    told = [ONE, TWIN, PILLOW, PAIR, QUAD, FOUR, SIX] + list(drawn_skins(31, 1))
    return told + [skin_with_handles(rng, many, handles) for many, handles in ((6, 3), (8, 4), (12, 3))]


def good_ones(rng, skin):
    """GOOD ARROWS, drawn; if there are none, some that are not."""
    if len(skin) % 2:
        return drawn_arrows(rng, skin)
    told = list(good_arrows(skin))
    for loop in loops(skin):
        if rng.randrange(2):
            for edge in loop:
                told[edge] = 1 - told[edge]
    return tuple(told)


def drawn_given(rng, kind, skin):
    """What is fit for this kind, of the skin if it has such."""
    drawn = {
        "crossing": lambda: (rng.randrange(len(skin)), rng.randrange(4)),
        "order": lambda: tuple(rng.sample(range(len(skin)), len(skin))),
        "turns": lambda: tuple(rng.randrange(4) for _ in skin),
        "edge": lambda: rng.randrange(2 * len(skin)), "field": lambda: rng.randrange(len(skin)),
        "corner": lambda: rng.randrange(len(slow_corners(skin))), "side": lambda: rng.randrange(4),
        "loop number": lambda: rng.randrange(max(1, 2 * slow_handles(skin))),
        "number": lambda: rng.choice((0, 1, 5, 10 ** 20)), "any number": lambda: rng.choice((0, -7, 10 ** 11)),
        "lot": lambda: drawn_lot(rng, skin), "ring": lambda: drawn_ring(rng, skin),
        "simple ring": lambda: drawn_simple_ring(rng, skin), "class": lambda: drawn_class(rng, skin),
        "arrows": lambda: rng.choice((drawn_arrows, good_ones))(rng, skin),
        "good arrows": lambda: good_ones(rng, skin), "fields": lambda: drawn_fields(rng, skin),
        "pairing": lambda: rng.choice(slow_pairings(skin) or [()]),
        "worths": lambda: drawn_worths(rng, skin), "signed table": lambda: drawn_table(rng, rng.randrange(2, 7)),
        "row": lambda: 0, "other row": lambda: 1, "rows": lambda: rng.choice(((), (0,), (1,), (0, 1))),
        "added number": lambda: rng.choice((0, -1, 10 ** 6)), "many": lambda: rng.choice((0, 1, 3, 101)),
        "sheet": lambda: drawn_sheet(rng, skin), "demand": lambda: drawn_demand(rng, skin),
        "demands": lambda: tuple(drawn_demand(rng, skin) for _ in range(rng.randrange(3))),
        "sheet text": lambda: rng.choice(("field 0 1 0 0 0 3 0 2\nlot 0 # a\n", "", "field 0 2 0 3 0 0 0 1", "lot", "A")),
        "table": lambda: rng.choice(TABLES), "text": lambda: rng.choice(("ab # c\n-1", "", "a\n\nb")),
        "pieces": lambda: rng.choice((PIECES, [])), "piece": lambda: rng.choice(("-12", "07", "")),
        "skin": lambda: skin,
    }
    return drawn[kind]()


def drawn_sheet(rng, skin):
    return skin, (drawn_worths(rng, skin),), (), (drawn_lot(rng, skin), ())


def drawn_demand(rng, skin):
    """A DEMAND of the skin, of those words for which there is one."""
    told = [
        ("good", skin), ("sum", skin, (0,) * (2 * len(skin)), rng.randrange(2)),
        ("steps", skin, drawn_class(rng, skin), rng.randrange(4)),
    ]
    if len(skin) % 2 == 0:
        told.append(("led", skin, good_ones(rng, skin), good_ones(rng, skin)))
    if slow_pairings(skin):
        told.append(("mark", skin, good_ones(rng, skin), rng.choice(slow_pairings(skin))))
    return rng.choice(told)


TABLES = [((0, 1), (1, 1)), ((1, 1), (1, 0)), ((1, 0), (0, 1))]


def calls(each=2):
    """(function, kinds, arguments) of calls of each function without a thing; some of them raise an error."""
    rng = random.Random(32)
    skins = some_skins()
    for function, kinds in functions_with_kinds():
        if "thing" not in kinds:
            for skin in skins if set(kinds) & set(OF_A_SKIN) else [None]:
                for _ in range(4 * each if skin is None else each if kinds != ["skin"] else 1):
                    yield function, kinds, [drawn_given(rng, kind, skin) for kind in kinds]


def all_thing_calls():
    """(function, skin and others ahead of the thing) of each function with a thing, for some skins."""
    rng = random.Random(33)
    for function, kinds in functions_with_kinds():
        if "thing" in kinds:
            assert kinds[-1] == "thing"
            for skin in some_skins() if len(kinds) > 1 else [None]:
                yield function, [drawn_given(rng, kind, skin) for kind in kinds[:-1]]


def thing_calls():
    """Those calls that are answered, whatever the thing."""
    for function, given in all_thing_calls():
        if raised(function, *given, None)[0] is None:
            yield function, given


def refused_thing_calls():
    """(function, others, error) of those calls for which an error is stated, whatever the thing."""
    for function, given in all_thing_calls():
        error = raised(function, *given, None)
        if error[0] is not None:
            yield function, given, error


def outcome(function, *given, **named):
    """What the call tells, written out, or the error that it raises and what that keeps."""
    try:
        return repr(function(*given, **named))
    except (LookupError, ValueError) as error:
        return type(error), vars(error)


@functools.lru_cache(None)
def answered_calls():
    """(function, arguments, outcome) of those calls."""
    return [(function, given, outcome(function, *given)) for function, _, given in calls()]


NO_NUMBERS = [None, True, False, "0", "", (0,), [0], (), 1.0, {}, {0: 0}]
NO_SKINS = [
    None, 0, True, "skin", (), [], {}, 1.5, b"skin", TWIN[:1], [TWIN], ((),), (((0, 0),) * 4,), (((0, 1), (0, 0), (0, 3)),),
    ((((0, 1), (0, 0), (0, 3), (0, True))),), TWIN + TWIN,
]


NO_DEMANDS = NO_SKINS + [
    ("good",), ("good", TWIN[:1]), ("bad", TWIN), ("good", TWIN, 0), (0, TWIN), (("good",), TWIN), ("sum", TWIN, (1, 1, 1, 1)),
    ("sum", TWIN, (1, 1, 1, 1), True), ("steps", TWIN, (0, 0), -1), ("led", TWIN, (0, 0, 0, 0), (0, 1, 0, 0)),
    ("mark", TWIN, (0, 1, 0, 0), (1,)), {"good": TWIN}, ("steps", TWIN, (0, 0), None), ("led", TWIN, (0, 1, 0, 0), ()),
]
NO_SETS = [
    None, 0, True, "0", "", {0: 0}, 1.5, (-1,), (0, 0), (True,), (False,), (None,), ("0",), ((0,),), [[0]], (0, True),
    (0, 1.0), (1, 0), (0, 1, 0), (-1, 0),
]


def sets_that_are_none(many):
    """What is no set of numbers from 0 below many, whatever it is asked for."""
    return NO_SETS + [(many,), (0, 10 ** 30), tuple(range(many + 1))]


def bits_that_are_none(many):
    """What is no tuple of so many bits."""
    told = [None, 0, True, "0" * many, {0: 0}, 1.5, (0,) * (many + 1), ((0,) * many,), [[0] * many]]
    if many:
        told += [(0,) * (many - 1), ()]
        told += [(0,) * (many - 1) + (bad,) for bad in (2, -1, True, False, None, "0", (0,), [1], 1.0, 10 ** 30)]
    return told


def numbers_that_are_none(many):
    """What is no tuple of so many numbers."""
    told = [None, 0, True, "0" * many, {0: 0}, 1.5, (0,) * (many + 1), (0,) * (many - 1), (), ((0,) * many,), [[0] * many]]
    return told + [(7,) * (many - 1) + (bad,) for bad in (True, False, None, "0", (0,), [1], 1.0)]


def unfit(kind, skin):
    """What Unfit() is raised for, handed in for this kind."""
    if kind == "skin":
        return NO_SKINS
    if kind in ("edge", "field", "corner"):
        return NO_NUMBERS
    if kind == "number":
        return NO_NUMBERS + [-1, -10 ** 30]
    if kind == "loop number":
        return NO_NUMBERS + [-1, 2 * slow_handles(skin), 10 ** 30]
    if kind == "side":
        return NO_NUMBERS + [-1, 4, 10 ** 30]
    if kind in ("lot", "pairing"):
        return sets_that_are_none(2 * len(skin)) + ([()] if kind == "pairing" else [])
    if kind == "fields":
        return sets_that_are_none(len(skin))
    if kind == "class":
        return bits_that_are_none(2 * slow_handles(skin))
    if kind in ("arrows", "good arrows"):
        return bits_that_are_none(2 * len(skin))
    if kind in ("ring", "simple ring"):
        return no_rings(skin)
    if kind == "worths":
        return numbers_that_are_none(2 * len(skin))
    if kind in ("row", "other row"):
        return NO_NUMBERS + [-1, -10 ** 30]
    if kind == "added number":
        return NO_NUMBERS
    if kind == "many":
        return NO_NUMBERS + [-1, -10 ** 30]
    return other_unfit(kind, skin)


def no_rings(skin):
    crossing = (0, 0)
    there = skin[0][0]
    return [
        None, 0, True, "00", {0: 0}, 1.5, (), [], crossing, (crossing, there, None), (crossing, there, (0, 4)),
        ((len(skin), 0),), ((-1, 0),), ((0, -1),), ((0, 4),), ((0, 0, 0),), ((0,),), ((0, True),), ((False, 0),), (("0", 0),),
        ([crossing],),
    ] + ([(crossing,), (crossing, crossing)] if there[0] != 0 else [])


def other_unfit(kind, skin):
    many = len(skin) if skin else 0
    told = {
        "crossing": [own for own in odd_things()] + [(many, 0), (0, 4), (-1, 0), (0, -1), (0, True), (0,), [0, 4], 1.5],
        "order": [None, 0, (), (0,) * (many + 1), (many,) * many, (-1,) * many, (True,) * many, {0: 0}],
        "turns": [None, 0, (), (0,) * (many + 1), (4,) * many, (-1,) * many, (True,) * many, {0: 0}],
        "table": [None, 0, True, "1", {0: 0}, (1,), ((1, 0),), ((2,),), ((-1,),), ((True,),), ((None,),), ([[1]],), ((1,), (0,))],
        "signed table": [None, 0, True, "1", {0: 0}, (1,), ((1,),), ((0, 1), (1, 0)), ((0, 1),), ((0, False), (0, 0)), [[[0]]]],
        "sheet": NO_SKINS + [(TWIN, (), ()), (TWIN, (0,), (), ()), (TWIN, (), (), ((1, 0),)), (TWIN, (), (), (), ()), (TWIN,)],
        "demand": NO_DEMANDS,
        "demands": [None, 0, True, "good", ("good", TWIN), {0: ("good", TWIN)}, ("good",)] + [(own,) for own in NO_DEMANDS],
        "rows": NO_SETS + [(-1, 99), (99, 1), (99, 99), (0, 99, True)],
        "pieces": [None, 0, [("A", 0)], [("a", -1)], [("a", 1), ("b", 0)], [("a", True)], ["a0"], "ab", [("a",)], [("", 0)]],
    }
    return told.get(kind, [])
