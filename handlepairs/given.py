"""What is asked of values that are handed in, whatever they are."""

from handlepairs.errors import Unfit


def is_number(thing):
    """Whether thing is a number: True and False are none."""
    return isinstance(thing, int) and not isinstance(thing, bool)


def is_below(thing, many):
    """Whether thing is a number from 0, below many."""
    return is_number(thing) and 0 <= thing < many


def is_tuple_of(thing, many):
    """Whether thing is a tuple of so many values."""
    return isinstance(thing, tuple) and len(thing) == many


def is_set_below(thing, many):
    """Whether thing is a set of numbers from 0, each below many."""
    return is_set_from_0(thing) and all([part < many for part in thing])


def is_set_from_0(thing):
    """Whether thing is a set of numbers from 0."""
    if not isinstance(thing, tuple) or not all([is_number(part) and part >= 0 for part in thing]):
        return False
    return is_ascending(thing)


def is_ascending(parts):
    """Whether each of the parts is above the one ahead of it."""
    return all([one < other for one, other in zip(parts, parts[1:])])


def is_same(thing, told):
    """Whether thing is just what is told, a number or a tuple of such: a list is no tuple, True is no number."""
    if isinstance(told, tuple):
        return is_tuple_of(thing, len(told)) and all([is_same(part, own) for part, own in zip(thing, told)])
    return is_number(thing) and thing == told


def as_tuples(value, depth):
    """The value with tuples in the place of its lists, down to this depth.

    A depth is told so that a list that holds itself, which is never fit, comes to an end as well.
    """
    if depth == 0 or not isinstance(value, (list, tuple)):
        return value
    return tuple([as_tuples(part, depth - 1) for part in value])


def check_numbers(*things):
    """Raises Unfit() unless all things are numbers."""
    if not all([is_number(thing) for thing in things]):
        raise Unfit()


def check_from_0(*things):
    """Raises Unfit() unless all things are numbers from 0."""
    if not all([is_number(thing) and thing >= 0 for thing in things]):
        raise Unfit()
