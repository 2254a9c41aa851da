"""Skins, orders, turns and texts for the tests, drawn by a told random source, and some that are named."""

import random

PILLOW = (((1, 0), (1, 3), (1, 2), (1, 1)), ((0, 0), (0, 3), (0, 2), (0, 1)))
TWIN = (((1, 2), (0, 3), (1, 0), (0, 1)), ((0, 2), (1, 3), (0, 0), (1, 1)))
PAIR = (((1, 1), (1, 2), (2, 3), (1, 0)), ((0, 3), (0, 0), (0, 1), (2, 1)), ((2, 2), (1, 3), (2, 0), (0, 2)))
BALL_OF_ONE = (((0, 1), (0, 0), (0, 3), (0, 2)),)
ONE = (((0, 2), (0, 3), (0, 0), (0, 1)),)


def matchings(crossings):
    """All ways to put the crossings in pairs, each a dict both ways."""
    if not crossings:
        yield {}
        return
    first = crossings[0]
    for at in range(1, len(crossings)):
        other = crossings[at]
        for rest in matchings(crossings[1:at] + crossings[at + 1:]):
            yield {**rest, first: other, other: first}


def skin_of(sewn, many):
    return tuple(tuple(sewn[(field, side)] for side in range(4)) for field in range(many))


def hangs_together(skin):
    met = {0}
    grown = True
    while grown:
        more = met | {there for field in met for there, _ in skin[field]}
        grown = more != met
        met = more
    return len(met) == len(skin)


def small_skins():
    """All SKINS of one and of two FIELDS."""
    for many in (1, 2):
        crossings = [(field, side) for field in range(many) for side in range(4)]
        for sewn in matchings(crossings):
            skin = skin_of(sewn, many)
            if hangs_together(skin):
                yield skin


def grid(rows, columns):
    """Fields in rows, sewn round both ways: one handle."""
    def at(row, column):
        return row % rows * columns + column % columns

    return tuple(
        ((at(row, column + 1), 2), (at(row + 1, column), 3), (at(row, column - 1), 0), (at(row - 1, column), 1))
        for row in range(rows) for column in range(columns)
    )


def ring_of(many):
    """Fields in a round, each one rolled up."""
    return grid(1, many)


def tree_sewing(rng, many):
    """Each field from 1 on sewn to one ahead of it, by sides that are free."""
    sewn = {}
    for field in range(1, many):
        free = [(there, side) for there in range(field) for side in range(4) if (there, side) not in sewn]
        one, other = rng.choice(free), (field, rng.randrange(4))
        sewn[one], sewn[other] = other, one
    return sewn


def free_round(sewn, many):
    """The free sides of fields sewn as a tree, in their round."""
    start = next((f, a) for f in range(many) for a in range(4) if (f, a) not in sewn)
    found = [start]
    while True:
        field, side = found[-1]
        side = (side + 1) % 4
        while (field, side) in sewn:
            field, side = sewn[(field, side)]
            side = (side + 1) % 4
        if (field, side) == start:
            return found
        found.append((field, side))


def nested_pairs(rng, items):
    """Items paired such that no two pairs cross: without handles."""
    if not items:
        return []
    at = rng.randrange(1, len(items), 2)
    return [(items[0], items[at])] + nested_pairs(rng, items[1:at]) + nested_pairs(rng, items[at + 1:])


def drawn_skin(rng, many, crossings=0):
    """A SKIN of so many fields: a ball, but for so many times two pairs exchanging a side."""
    sewn = tree_sewing(rng, many)
    pairs = nested_pairs(rng, free_round(sewn, many))
    for _ in range(crossings):
        one, other = rng.randrange(len(pairs)), rng.randrange(len(pairs))
        if one != other:
            (a, b), (c, d) = pairs[one], pairs[other]
            pairs[one], pairs[other] = (a, c), (b, d)
    for one, other in pairs:
        sewn[one], sewn[other] = other, one
    order = list(range(many))
    rng.shuffle(order)
    turns = [rng.randrange(4) for _ in order]
    named = {
        (field, side): (order[field], (side + turns[field]) % 4) for field in order for side in range(4)
    }
    return skin_of({named[one]: named[other] for one, other in sewn.items()}, many)


def drawn_skins(seed, each=6):
    """SKINS of 1 to 12 fields, with few handles, with many and with none."""
    rng = random.Random(seed)
    for many in range(1, 13):
        for crossings in range(each):
            yield drawn_skin(rng, many, crossings)
        yield drawn_skin(rng, many, 4 * many)
    for rows, columns in ((1, 3), (2, 2), (3, 4), (2, 6)):
        yield grid(rows, columns)


def drawn_order(rng, skin):
    order = list(range(len(skin)))
    rng.shuffle(order)
    return tuple(order), tuple(rng.randrange(4) for _ in order)


def drawn_text(rng):
    """A text without faults: pieces, blanks, remarks, empty lines."""
    lines = []
    for _ in range(rng.randrange(6)):
        parts = [" " * rng.randrange(3)]
        for _ in range(rng.randrange(5)):
            parts += [drawn_piece(rng), " " * rng.randrange(1, 4)]
        if rng.random() < 0.4:
            parts.append("#" + "".join(chr(rng.randrange(32, 127)) for _ in range(rng.randrange(8))))
        lines.append("".join(parts))
    return "\n".join(lines)


def drawn_piece(rng):
    signs = "abcxyz0123456789-."
    return "".join(rng.choice(signs) for _ in range(rng.randrange(1, 7)))


def drawn_pieces(rng):
    line, told = 0, []
    for _ in range(rng.randrange(9)):
        line += rng.choice((0, 0, 1, 3))
        told.append((drawn_piece(rng), line))
    return told


def raised(function, *given):
    """The class and the values of the error that the call raises."""
    try:
        function(*given)
    except (LookupError, ValueError) as error:
        return type(error), vars(error)
    return None, None


def as_lists(value):
    """The value with lists in the place of its tuples, at each depth."""
    if isinstance(value, (list, tuple)):
        return [as_lists(part) for part in value]
    return value


def exchanged(value, rng):
    """The value with some lists and tuples exchanged, at each depth."""
    if isinstance(value, (list, tuple)):
        return rng.choice((list, tuple))(exchanged(part, rng) for part in value)
    return value


def nest(value, depth):
    """The value in so many tuples."""
    for _ in range(depth):
        value = (value,)
    return value


def odd_things():
    """Values of all kinds that a thing may have, none of them a CROSSING, a SKIN or a number from 0."""
    return [
        None, True, False, "", "0", "skin", -1, -10 ** 30, (), [], [()], ((),), (None,), ("0", "1"), (True,),
        ((0, 0), 0, 0, 0), nest(7, 19), [nest((), 18)], nest([1, (2, "a")], 17), tuple(range(5000)), "a" * 5000,
        (0,) * 5000, [[]] * 3000, ((0, 0),) * 3, (((0, 0),) * 4,) * 3000,
    ]
