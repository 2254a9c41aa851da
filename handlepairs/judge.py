"""One judge: demands, papers against them and reasons for them.

Below the functions of the interface stand those that take what is already known to be fit.
"""

from handlepairs.arrows import are_good_arrows_of
from handlepairs.cases import GoodCase, LedCase, MarkCase, StepsCase, SumCase
from handlepairs.corners import check_handles
from handlepairs.errors import Unfit
from handlepairs.given import as_tuples, is_number
from handlepairs.pairings import is_pairing_of
from handlepairs.rings import is_class_of_skin
from handlepairs.skins import is_skin
from handlepairs.tables import are_worths_of

# How long a DEMAND with this word is.
LENGTHS = {"good": 2, "led": 4, "sum": 4, "steps": 4, "mark": 4}
WORDS_OF_FEW_HANDLES = ("sum", "steps", "mark")


def is_demand(thing):
    """Whether thing is a DEMAND."""
    if not isinstance(thing, tuple) or len(thing) == 0 or not isinstance(thing[0], str):
        return False
    if LENGTHS.get(thing[0]) != len(thing) or not is_skin(thing[1]):
        return False
    return does_fit(thing[0], thing[1], thing[2:])


def is_so(demand):
    """Whether the demand stands."""
    return case_of(fit_demand(demand)).stands()


def paper_against(demand):
    """A PAPER against the demand; None if it stands."""
    asked = case_of(fit_demand(demand))
    return None if asked.stands() else asked.paper()


def is_paper_against(demand, thing):
    """Whether thing is a PAPER against the demand."""
    asked = case_of(fit_demand(demand))
    return not asked.stands() and asked.is_paper(thing)


def reason_for(demand):
    """A REASON for the demand; None if it does not stand."""
    asked = case_of(fit_demand(demand))
    return asked.reason() if asked.stands() else None


def is_reason_for(demand, thing):
    """Whether thing is a REASON for the demand."""
    asked = case_of(fit_demand(demand))
    return asked.stands() and asked.is_reason(thing)


def first_fallen(demands):
    """The number of the first of the demands that does not stand; None if all stand."""
    told = as_tuples(demands, 5)
    if not isinstance(told, tuple) or not all([is_demand(demand) for demand in told]):
        raise Unfit()
    for place, demand in enumerate(told):
        check_few_handles(demand)
        if not case_of(demand).stands():
            return place
    return None


def fit_demand(demand):
    """The demand, of tuples alone; Unfit() if it is none, TooMany() if its skin has too many HANDLES for its word."""
    told = as_tuples(demand, 4)
    if not is_demand(told):
        raise Unfit()
    check_few_handles(told)
    return told


def check_few_handles(demand):
    """Raises TooMany() if the skin of the DEMAND has too many HANDLES for its word."""
    if demand[0] in WORDS_OF_FEW_HANDLES:
        check_handles(demand[1])


def does_fit(word, skin, behind):
    """Whether what stands behind the skin is as a DEMAND with this word asks for; it is as long."""
    if word == "led":
        return all([are_good_arrows_of(skin, part) for part in behind])
    if word == "sum":
        return are_worths_of(skin, behind[0]) and is_number(behind[1])
    if word == "steps":
        return is_class_of_skin(skin, behind[0]) and is_number(behind[1]) and behind[1] >= 0
    if word == "mark":
        return are_good_arrows_of(skin, behind[0]) and is_pairing_of(skin, behind[1])
    return True


def case_of(demand):
    """The case of the DEMAND."""
    word = demand[0]
    behind = demand[1:]
    if word == "good":
        return GoodCase(*behind)
    if word == "led":
        return LedCase(*behind)
    if word == "sum":
        return SumCase(*behind)
    if word == "steps":
        return StepsCase(*behind)
    return MarkCase(*behind)
