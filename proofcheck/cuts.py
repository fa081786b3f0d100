"""The house's own cuts."""

from proofcheck.eased import Eased
from proofcheck.eased import fact_worths
from proofcheck.eased import facts_in
from proofcheck.eased import row_worth


class Cut:
    """What a cut is worth, and its acts, rising."""

    def __init__(self, worth, acts):
        self.worth = worth
        self.acts = acts


def dear_fact(needed, worths):
    """The lowest of the needed facts that are worth most, None if they can't be had."""
    worth = row_worth(needed, worths)
    if worth is None:
        return None
    return [fact for fact in facts_in(needed) if worths[fact] == worth][0]


def zone_of(eased, prices, dears):
    """The facts from which the end is had, by dear facts alone, for nothing."""
    earlier = 0
    zone = 1 << eased.end
    while zone != earlier:
        earlier = zone
        for number, dear in enumerate(dears):
            if dear is not None and prices[number] == 0 and eased.brings[number] & zone:
                zone = zone | (1 << dear)
    return zone


def is_among(dear, group):
    return dear is not None and (group >> dear) & 1 == 1


def before_zone(eased, zone, dears):
    """The facts that are had, by dear facts alone, without going through the zone."""
    earlier = 0
    before = eased.so
    while before != earlier:
        earlier = before
        for number, dear in enumerate(dears):
            if is_among(dear, before):
                before = before | (eased.brings[number] & ~zone)
    return before


def next_cut(eased, prices, worths):
    dears = [dear_fact(needed, worths) for needed in eased.needs]
    zone = zone_of(eased, prices, dears)
    before = before_zone(eased, zone, dears)
    acts = [number for number, dear in enumerate(dears) if is_among(dear, before) and eased.brings[number] & zone]
    return Cut(min([prices[number] for number in acts]), acts)


def find_cuts(task):
    """The cuts from the first state in the order in which they are found, None if what's wanted can't be had."""
    eased = Eased(task)
    # What is wanted counts as one more act, with the price 0.
    prices = [act.cost for act in task.acts] + [0]
    worths = fact_worths(eased, prices)
    if worths[eased.end] is None:
        return None
    cuts = []
    while worths[eased.end] > 0:
        cut = next_cut(eased, prices, worths)
        cuts.append(cut)
        for number in cut.acts:
            prices[number] -= cut.worth
        worths = fact_worths(eased, prices)
    return cuts
