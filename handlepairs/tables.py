"""Signed tables of arrows and worths, and their paired sums.

Below the functions of the interface stand those that take what is already known to be fit.
"""

from handlepairs.arrows import fit_arrows
from handlepairs.errors import NoField, Unfit
from handlepairs.given import as_tuples, check_from_0, check_numbers, is_number, is_set_from_0, is_tuple_of
from handlepairs.pairings import fit_pairing
from handlepairs.skins import fit_skin, joined_fields


def worth_of(skin, worths, pairing):
    """The worth of the pairing."""
    told = fit_skin(skin)
    own = fit_worths(told, worths)
    worth = 1
    for edge in fit_pairing(told, pairing):
        worth = worth * own[edge]
    return worth


def sign_of(skin, arrows, pairing):
    """The SIGN of the pairing by the arrows."""
    told = fit_skin(skin)
    own = fit_arrows(told, arrows)
    return pairing_sign(told, own, fit_pairing(told, pairing))


def signed_table(skin, arrows, worths):
    """The SIGNED TABLE of the arrows and the worths."""
    told = fit_skin(skin)
    own = fit_arrows(told, arrows)
    return table_by_arrows(told, own, fit_worths(told, worths))


def is_signed_table(thing):
    """Whether thing is a table, of whatever SKIN or of none."""
    if not isinstance(thing, tuple) or not all([is_row_of_numbers(row, len(thing)) for row in thing]):
        return False
    return all([
        number == -thing[far][at] for at, row in enumerate(thing) for far, number in enumerate(row[:at + 1])
    ])


def paired_sum(table):
    """The PAIRED SUM of the table."""
    return sum_over_pairs(fit_signed_table(table))


def struck(table, fields):
    """The table without the rows and the columns of the fields."""
    told = fit_signed_table(table)
    own = fit_row_numbers(fields)
    check_rows(told, own)
    return without_rows(told, own)


def turned_table(table, fields):
    """The table with the number at (f, g) times -1 for each of f and g that is one of the fields."""
    told = fit_signed_table(table)
    own = fit_row_numbers(fields)
    check_rows(told, own)
    signs = [-1 if row in own else 1 for row in range(len(told))]
    return tuple([
        tuple([sign * far * number for far, number in zip(signs, row)]) for sign, row in zip(signs, told)
    ])


def row_added(table, field, other, number):
    """The table with number times the row of field added to that of other, and the column to the column."""
    told = fit_signed_table(table)
    check_from_0(field, other)
    check_numbers(number)
    check_rows(told, (field, other))
    if field == other:
        raise Unfit()
    rows = [list(row) for row in told]
    for far, own in enumerate(told[field]):
        # The number at (other, other) would come back to 0 once the column is added, too.
        if far != other:
            rows[other][far] += number * own
            rows[far][other] -= number * own
    return tuple([tuple(row) for row in rows])


def sum_by_pairs(table, field):
    """For each row what the ways in which it and the row of field are a pair give to the PAIRED SUM."""
    told = fit_signed_table(table)
    check_from_0(field)
    check_rows(told, (field,))
    return tuple([sum_with_pair(told, field, far) for far in range(len(told))])


def fit_worths(skin, worths):
    """The worths as a tuple; Unfit() if they are no WORTHS of the skin."""
    told = as_tuples(worths, 1)
    if not are_worths_of(skin, told):
        raise Unfit()
    return told


def fit_signed_table(table):
    """The table, of tuples alone; Unfit() if it is none."""
    told = as_tuples(table, 2)
    if not is_signed_table(told):
        raise Unfit()
    return told


def fit_row_numbers(fields):
    """The set of numbers of rows as a tuple; Unfit() if it is no set of numbers from 0."""
    told = as_tuples(fields, 1)
    if not is_set_from_0(told):
        raise Unfit()
    return told


def check_rows(table, fields):
    """Raises NoField(field) for the first of the fields, numbers from 0, that is none of a row."""
    for field in fields:
        if field >= len(table):
            raise NoField(field)


def is_row_of_numbers(thing, many):
    """Whether thing is a tuple of so many numbers."""
    return is_tuple_of(thing, many) and all([is_number(part) for part in thing])


def are_worths_of(skin, thing):
    """Whether thing is a tuple with a number for each EDGE."""
    return is_row_of_numbers(thing, 2 * len(skin))


def pairing_sign(skin, arrows, pairing):
    """The SIGN of the PAIRING by the ARROWS."""
    fields = joined_fields(skin)
    row = []
    for edge in pairing:
        one, other = fields[edge]
        row.extend((other, one) if arrows[edge] == 1 else (one, other))
    turned = len([one for at, one in enumerate(row) for other in row[at:] if one > other])
    return 1 if turned % 2 == 0 else -1


def table_by_arrows(skin, arrows, worths):
    """The SIGNED TABLE of ARROWS and WORTHS."""
    rows = [[0] * len(skin) for _ in skin]
    for (one, other), bit, worth in zip(joined_fields(skin), arrows, worths):
        number = -worth if bit == 1 else worth
        # What an EDGE from a FIELD to itself adds here is taken off at once.
        rows[one][other] += number
        rows[other][one] -= number
    return tuple([tuple(row) for row in rows])


def without_rows(table, fields):
    """The table without the rows and the columns of these numbers."""
    kept = [row for row in range(len(table)) if row not in fields]
    return tuple([tuple([table[row][far] for far in kept]) for row in kept])


def sum_over_pairs(table):
    """The PAIRED SUM, in few steps: two rows after two are taken off the table, without fractions.

    After each step the number at (f, g) is the PAIRED SUM of the rows taken off with f and g: so what was told by
    the step ahead divides it, and nothing is left over.
    """
    if len(table) % 2 == 1:
        return 0
    left = table
    told, sign = 1, 1
    while left:
        joined_to = [row for row, number in enumerate(left[0]) if number != 0]
        if not joined_to:
            return 0
        if joined_to[0] != 1:
            left = with_exchanged(left, 1, joined_to[0])
            sign = -sign
        divisor = told
        told = left[0][1]
        left = two_rows_less(left, divisor)
    return sign * told


def with_exchanged(table, one, other):
    """The table with these two rows exchanged, and their columns."""
    order = list(range(len(table)))
    order[one] = other
    order[other] = one
    return [[table[row][far] for far in order] for row in order]


def two_rows_less(table, divisor):
    """What is left of the table when its first two rows are taken off, divided by what the step ahead told."""
    first, second = table[0], table[1]
    lead = first[1]
    kept = range(2, len(table))
    return [
        [(lead * table[row][far] - first[row] * second[far] + first[far] * second[row]) // divisor for far in kept]
        for row in kept
    ]


def sum_with_pair(table, one, other):
    """What the ways in which both rows are a pair give to the PAIRED SUM."""
    if one == other:
        return 0
    near, far = min(one, other), max(one, other)
    sign = 1 if (far - near) % 2 == 1 else -1
    return sign * table[near][far] * sum_over_pairs(without_rows(table, (near, far)))
