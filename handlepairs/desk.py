"""A desk: arrows of a skin, turned by lines of text, and turned back.

Below the class of the interface stand functions that take what is already known to be fit. An order is a pair of
the word of a line and the number behind it, None for a line of a word alone.
"""

from handlepairs.arrows import even_corners, fit_arrows, with_turned
from handlepairs.bits import lone_bit
from handlepairs.errors import BadText, NothingDone
from handlepairs.kinds import kind_by_rings, turned_by_bits
from handlepairs.signs import number_of
from handlepairs.skins import fit_skin

WORDS_ALONE = ("bad", "kind", "far")
WORDS_WITH_NUMBER = ("turn", "flip", "arrow")
MOST_FIGURES_OF_WORD = 6
DONE = "done"
NONE = "none"


class Desk:
    """ARROWS of a SKIN, GOOD or not, turned by lines of text."""

    def __init__(self, skin, arrows):
        self._skin = fit_skin(skin)
        self._first = fit_arrows(self._skin, arrows)
        self._arrows = self._first
        # The ARROWS ahead of each say that can be taken back, and behind each that can be done once more.
        self._ahead = []
        self._behind = []

    def say(self, text):
        """The tuple of the answers to the lines of the text."""
        orders = read_orders(text)
        arrows = self._arrows
        answers = []
        for word, number in orders:
            answer, arrows = answered(self._skin, self._first, arrows, word, number)
            answers.append(answer)
        if DONE in answers:
            self._ahead.append(self._arrows)
            self._behind = []
            self._arrows = arrows
        return tuple(answers)

    def skin(self):
        """The SKIN."""
        return self._skin

    def arrows(self):
        """The ARROWS now."""
        return self._arrows

    def first(self):
        """The ARROWS of the beginning."""
        return self._first

    def undo(self):
        """Takes back the last say by which something was done; how many can be taken back then."""
        if not self._ahead:
            raise NothingDone()
        self._behind.append(self._arrows)
        self._arrows = self._ahead.pop()
        return len(self._ahead)

    def redo(self):
        """Does once more the last say that was taken back; how many can be taken back then."""
        if not self._behind:
            raise NothingDone()
        self._ahead.append(self._arrows)
        self._arrows = self._behind.pop()
        return len(self._ahead)

    def twin(self):
        """Another Desk like this one, with all that could be taken back and done once more."""
        other = Desk(self._skin, self._first)
        other._arrows = self._arrows
        other._ahead = list(self._ahead)
        other._behind = list(self._behind)
        return other

    def __eq__(self, other):
        return (
            isinstance(other, Desk) and self._skin == other._skin and self._first == other._first
            and self._arrows == other._arrows
        )


def read_orders(text):
    """The list of the orders of the text, line by line; BadText for the first line that is none."""
    return [read_order(line, row) for line, row in enumerate(text.split("\n"))]


def read_order(line, row):
    """The order that the row of this line tells; BadText if it tells none."""
    words = row.split(" ")
    if len(words) == 1 and words[0] in WORDS_ALONE:
        return (row, None)
    if len(words) != 2 or words[0] not in WORDS_WITH_NUMBER or not is_number_word(words[1]):
        raise BadText(line)
    return (words[0], int(words[1]))


def is_number_word(word):
    """Whether the word is a number piece of 1 to 6 figures without a - ahead."""
    return len(word) <= MOST_FIGURES_OF_WORD and not word.startswith("-") and number_of(word) is not None


def answered(skin, first, arrows, word, number):
    """The answer to an order, and the ARROWS behind it."""
    if word == "turn":
        if number >= len(skin):
            return "no field", arrows
        return DONE, turned_by_bits(skin, arrows, lone_bit(number, len(skin)))
    if number is not None and number >= len(arrows):
        return "no edge", arrows
    if word == "flip":
        return DONE, with_turned(arrows, (number,))
    return told_of(skin, first, arrows, word, number), arrows


def told_of(skin, first, arrows, word, number):
    """What is told of the ARROWS by an order that changes nothing."""
    if word == "arrow":
        return str(arrows[number])
    if word == "bad":
        return numbers_told(even_corners(skin, arrows))
    if word == "kind":
        return numbers_told(kind_by_rings(skin, arrows))
    return numbers_told([edge for edge, bit in enumerate(arrows) if bit != first[edge]])


def numbers_told(numbers):
    """The numbers, parted by blanks."""
    return " ".join([str(number) for number in numbers]) if numbers else NONE
