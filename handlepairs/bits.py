"""Rows of bits, added up by two, and square tables of such rows."""

from handlepairs.given import is_below, is_tuple_of


def are_bits(thing, many):
    """Whether thing is a tuple of so many bits."""
    return is_tuple_of(thing, many) and all([is_below(bit, 2) for bit in thing])


def added(one, other):
    """Both rows added up by two, bit by bit."""
    return tuple([left ^ right for left, right in zip(one, other)])


def both_by_two(one, other):
    """By two, at how many places both rows have 1."""
    return sum([left & right for left, right in zip(one, other)]) % 2


def lone_bit(at, many):
    """The row of so many bits that is 1 at this place alone."""
    return tuple([1 if place == at else 0 for place in range(many)])


def bit_rows(many):
    """The list of all rows of so many bits, ascending."""
    rows = [()]
    for _ in range(many):
        rows = [row + (bit,) for row in rows for bit in (0, 1)]
    return rows


def row_times(row, table):
    """The row times the square table, by two."""
    total = (0,) * len(table)
    for bit, own in zip(row, table):
        if bit == 1:
            total = added(total, own)
    return total


def times(table, far):
    """The one square table times the other one, by two."""
    return tuple([row_times(row, far) for row in table])


def turned_back(table):
    """The square table that, times this one, is 1 at each (j, j) alone; None if there is none."""
    many = len(table)
    rows = [row + lone_bit(at, many) for at, row in enumerate(table)]
    for at in range(many):
        leading = [place for place in range(at, many) if rows[place][at] == 1]
        if not leading:
            return None
        lead = rows[leading[0]]
        rows[leading[0]] = rows[at]
        rows[at] = lead
        rows = [
            added(row, lead) if place != at and row[at] == 1 else row
            for place, row in enumerate(rows)
        ]
    return tuple([row[many:] for row in rows])


def bits_apart(many, joins):
    """A bit for each number below many, 0 for number 0; None if there are none as joins ask.

    joins are triples (one, other, bit): the bits of one and other, added up by two, must be that bit. All
    numbers must hang together by them.
    """
    bits = {0: 0}
    both_ways = joins + [(far, near, apart) for near, far, apart in joins]
    has_grown = True
    while has_grown:
        has_grown = False
        for one, other, bit in both_ways:
            if one in bits and other not in bits:
                bits[other] = bits[one] ^ bit
                has_grown = True
    if not all([bits[one] ^ bits[other] == bit for one, other, bit in joins]):
        return None
    return tuple([bits[number] for number in range(many)])
