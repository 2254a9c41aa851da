"""What a judge is asked for: a class for each word of a demand, made of what stands behind that word.

Each tells whether the demand stands, and a PAPER or a REASON: of a paper only if it does not stand, of a reason
only if it does. What they are made of is known to be fit, and for the last three has few HANDLES.
"""

from handlepairs.arrows import are_good_arrows_of, first_good
from handlepairs.bits import added, are_bits
from handlepairs.corners import handle_number
from handlepairs.counts import all_parts, sum_by_parts, told_kinds
from handlepairs.given import is_ascending, is_below, is_same, is_set_below
from handlepairs.kinds import bits_between, kind_by_rings, turned_by_bits
from handlepairs.marks import class_qs, counted_mark, handle_qs
from handlepairs.meetings import form_table
from handlepairs.rings import all_classes
from handlepairs.turns import all_step_rows, class_number, crossed_by, is_even_lot_of, least_lots


class GoodCase:
    """That a skin has GOOD ARROWS."""

    def __init__(self, skin):
        self._skin = skin

    def stands(self):
        """Whether it is so."""
        return len(self._skin) % 2 == 0

    def paper(self):
        """The number of FIELDS."""
        return len(self._skin)

    def is_paper(self, thing):
        """Whether thing is this number."""
        return is_same(thing, len(self._skin))

    def reason(self):
        """GOOD ARROWS."""
        return first_good(self._skin)

    def is_reason(self, thing):
        """Whether thing are GOOD ARROWS."""
        return are_good_arrows_of(self._skin, thing)


class LedCase:
    """That other GOOD ARROWS come from some by FIELDS turned."""

    def __init__(self, skin, arrows, other):
        self._skin = skin
        self._arrows = arrows
        self._other = other

    def unlike(self):
        """For each HANDLE RING whether AGAINST by both is unlike."""
        return added(kind_by_rings(self._skin, self._arrows), kind_by_rings(self._skin, self._other))

    def stands(self):
        """Whether it is so."""
        return bits_between(self._skin, self._arrows, self._other) is not None

    def paper(self):
        """The least number of a HANDLE RING at which AGAINST is unlike."""
        return self.unlike().index(1)

    def is_paper(self, thing):
        """Whether thing is the number of a HANDLE RING at which AGAINST is unlike."""
        unlike = self.unlike()
        return is_below(thing, len(unlike)) and unlike[thing] == 1

    def reason(self):
        """A set of FIELDS to turn at."""
        bits = bits_between(self._skin, self._arrows, self._other)
        return tuple([field for field, bit in enumerate(bits) if bit == 1])

    def is_reason(self, thing):
        """Whether thing is a set of FIELDS that, turned, lead to the other ARROWS."""
        if not is_set_below(thing, len(self._skin)):
            return False
        bits = [1 if field in thing else 0 for field in range(len(self._skin))]
        return turned_by_bits(self._skin, self._arrows, bits) == self._other


class SumCase:
    """That the WORTHS of all PAIRINGS, added up, are a number."""

    def __init__(self, skin, worths, number):
        self._parts = tuple(all_parts(skin, told_kinds(skin), worths))
        self._total = sum_by_parts(skin, self._parts)
        self._number = number

    def stands(self):
        """Whether it is so."""
        return self._total == self._number

    def paper(self):
        """The number that they are."""
        return self._total

    def is_paper(self, thing):
        """Whether thing is the number that they are."""
        return is_same(thing, self._total)

    def reason(self):
        """The parts, KINDS ascending; () without a PAIRING."""
        return self._parts

    def is_reason(self, thing):
        """Whether thing are these parts."""
        return is_same(thing, self._parts)


class StepsCase:
    """That the STEPS of a CLASS are at most a number."""

    def __init__(self, skin, kind, number):
        self._skin = skin
        self._kind = kind
        self._number = number

    def least(self):
        """An EVEN LOT with the CLASS as CROSSED, of as few EDGES as can be."""
        return least_lots(self._skin)[class_number(self._kind)]

    def stands(self):
        """Whether it is so."""
        return len(self.least()) <= self._number

    def paper(self):
        """The STEP ROWS."""
        return all_step_rows(self._skin)

    def is_paper(self, thing):
        """Whether thing are the STEP ROWS."""
        return is_same(thing, all_step_rows(self._skin))

    def reason(self):
        """An EVEN LOT of so many EDGES at most."""
        return self.least()

    def is_reason(self, thing):
        """Whether thing is such a LOT."""
        if not is_even_lot_of(self._skin, thing) or len(thing) > self._number:
            return False
        return crossed_by(self._skin, thing) == self._kind


class MarkCase:
    """That the MARK of GOOD ARROWS by a PAIRING is 1."""

    def __init__(self, skin, arrows, pairing):
        self._width = 2 * handle_number(skin)
        values = class_qs(skin, form_table(skin), handle_qs(skin, arrows, pairing))
        self._mark = counted_mark(values)
        self._values = dict(zip(all_classes(skin), values))

    def with_q(self, wanted):
        """The set of the CLASSES with this q."""
        return tuple([one for one, q in self._values.items() if q == wanted])

    def are_most(self, thing, wanted):
        """Whether thing is a set of CLASSES with this q, more than half of all."""
        if not isinstance(thing, tuple) or not all([are_bits(one, self._width) for one in thing]):
            return False
        if not is_ascending(thing) or 2 * len(thing) <= len(self._values):
            return False
        return all([self._values[one] == wanted for one in thing])

    def stands(self):
        """Whether it is so."""
        return self._mark == 1

    def paper(self):
        """The set of all CLASSES with q 1."""
        return self.with_q(1)

    def is_paper(self, thing):
        """Whether thing is a set of CLASSES with q 1, more than half of all."""
        return self.are_most(thing, 1)

    def reason(self):
        """The set of all CLASSES with q 0."""
        return self.with_q(0)

    def is_reason(self, thing):
        """Whether thing is a set of CLASSES with q 0, more than half of all."""
        return self.are_most(thing, 0)
