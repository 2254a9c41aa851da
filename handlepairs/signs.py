"""The pieces of a text, and the numbers among them."""

from handlepairs.errors import BadText, Unfit
from handlepairs.given import as_tuples, is_number, is_tuple_of

FIGURES = "0123456789"
PIECE_SIGNS = "abcdefghijklmnopqrstuvwxyz0123456789-."
MOST_FIGURES = 12


def pieces(text):
    """The pieces of the text, each with the number of its line."""
    told = []
    for line, row in enumerate(text.split("\n")):
        for piece in words_of(row):
            if not is_piece(piece):
                raise BadText(line)
            told.append((piece, line))
    return told


def words_of(row):
    """What blanks part in a line, its remark left out."""
    # Not split() alone: that would part at a tab, too, which is no blank.
    return [word for word in row.partition("#")[0].split(" ") if word != ""]


def is_piece(thing):
    """Whether thing is a string, not "", of the signs of a piece."""
    return isinstance(thing, str) and thing != "" and all([sign in PIECE_SIGNS for sign in thing])


def are_pieces(thing):
    """Whether thing is a tuple of pairs (piece, line), the lines never falling."""
    if not isinstance(thing, tuple) or not all([is_placed_piece(pair) for pair in thing]):
        return False
    lines = [line for _, line in thing]
    return lines == sorted(lines)


def is_placed_piece(thing):
    """Whether thing is a pair (piece, line)."""
    return is_tuple_of(thing, 2) and is_piece(thing[0]) and is_number(thing[1]) and thing[1] >= 0


def text_of(pieces):
    """The text that has just these pieces, each in its line."""
    told = as_tuples(pieces, 2)
    if not are_pieces(told):
        raise Unfit()
    parts = []
    here = 0
    for piece, line in told:
        if line > here:
            parts.append("\n" * (line - here))
        elif parts:
            parts.append(" ")
        parts.append(piece)
        here = line
    if parts:
        parts.append("\n")
    return "".join(parts)


def number_of(piece):
    """The number of a number piece, None if it is none."""
    is_negative = piece.startswith("-")
    figures = piece[1:] if is_negative else piece
    if not 1 <= len(figures) <= MOST_FIGURES or not all([sign in FIGURES for sign in figures]):
        return None
    if figures[0] == "0" and (is_negative or len(figures) > 1):
        return None
    return int(piece)


def piece_of(number):
    """The number piece of a number."""
    return str(number)
