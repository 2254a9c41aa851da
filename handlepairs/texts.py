"""Sheets: a skin with worths, arrows and lots of it, told by a text.

Below the functions of the interface stand those that take what is already known to be fit.
"""

from handlepairs.arrows import are_arrows_of
from handlepairs.errors import BadText, Unfit
from handlepairs.given import as_tuples, is_tuple_of
from handlepairs.signs import number_of, piece_of, pieces
from handlepairs.skins import SIDES, fit_skin, is_skin
from handlepairs.tables import are_worths_of
from handlepairs.trees import is_lot_of_edges

FIELD_WORD = "field"
# The words of the rows behind those of the fields, in their order: as they stand in a SHEET, too.
WORDS_BEHIND = ("worths", "arrows", "lot")


def is_sheet(thing):
    """Whether thing is a SHEET."""
    if not is_tuple_of(thing, 1 + len(WORDS_BEHIND)) or not is_skin(thing[0]):
        return False
    return all([are_all_told(thing[0], word, part) for word, part in zip(WORDS_BEHIND, thing[1:])])


def sheet_text(sheet):
    """The text of the sheet, a row a line."""
    told = as_tuples(sheet, 4)
    if not is_sheet(told):
        raise Unfit()
    rows = [
        row_text(FIELD_WORD, [number for crossing in row for number in crossing]) for row in told[0]
    ]
    for word, part in zip(WORDS_BEHIND, told[1:]):
        rows.extend([row_text(word, numbers) for numbers in part])
    return "".join(rows)


def read_sheet(text):
    """The SHEET that the text tells."""
    rows = rows_of(text)
    if not rows:
        raise BadText(0)
    ahead = many_fields(rows)
    if ahead == 0:
        raise BadText(rows[0][0])
    skin = read_fields(rows[:ahead])
    return (skin,) + read_behind(skin, rows[ahead:])


def skin_text(skin):
    """The text of the SHEET of the skin alone."""
    return sheet_text((fit_skin(skin), (), (), ()))


def read_skin(text):
    """The SKIN of the SHEET that the text tells."""
    return read_sheet(text)[0]


def are_all_told(skin, word, thing):
    """Whether thing is a tuple of what rows with this word tell."""
    return isinstance(thing, tuple) and all([is_told_by(skin, word, part) for part in thing])


def is_told_by(skin, word, thing):
    """Whether thing is what a row with this word tells: WORTHS, ARROWS or a LOT of the skin."""
    if word == "worths":
        return are_worths_of(skin, thing)
    if word == "arrows":
        return are_arrows_of(skin, thing)
    return is_lot_of_edges(skin, thing)


def row_text(word, numbers):
    """The line of a row with this word and these numbers."""
    return " ".join([word] + [piece_of(number) for number in numbers]) + "\n"


def rows_of(text):
    """The list of triples of a line that has pieces, the first of these, and what the others tell.

    That is a tuple with a number for each, or None for what is no number piece.
    """
    rows = []
    words = {}
    for piece, line in pieces(text):
        if line in words:
            words[line].append(number_of(piece))
        else:
            words[line] = []
            rows.append((line, piece))
    return [(line, word, tuple(words[line])) for line, word in rows]


def many_fields(rows):
    """How many rows stand ahead of the first one that is no row field."""
    many = 0
    while many < len(rows) and rows[many][1] == FIELD_WORD:
        many += 1
    return many


def read_fields(rows):
    """The SKIN that the rows field tell; BadText for the first that is not as told, or the last one, if it is none."""
    told = []
    for line, _, numbers in rows:
        if not is_field_told(numbers):
            raise BadText(line)
        told.append(tuple([(numbers[2 * side], numbers[2 * side + 1]) for side in range(SIDES)]))
    if not is_skin(tuple(told)):
        raise BadText(rows[-1][0])
    return tuple(told)


def is_field_told(numbers):
    """Whether these are eight numbers from 0, each second one a SIDE; what is no number piece is None."""
    if len(numbers) != 2 * SIDES or not all([number is not None and number >= 0 for number in numbers]):
        return False
    return all([side < SIDES for side in numbers[1::2]])


def read_behind(skin, rows):
    """The triple of the tuples of WORTHS, of ARROWS and of LOTS that the rows behind the rows field tell."""
    told = [[] for _ in WORDS_BEHIND]
    place = 0
    for line, word, numbers in rows:
        if word not in WORDS_BEHIND[place:] or not is_told_by(skin, word, numbers):
            raise BadText(line)
        place = WORDS_BEHIND.index(word)
        told[place].append(numbers)
    return tuple([tuple(part) for part in told])
