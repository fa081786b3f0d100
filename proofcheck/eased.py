"""A task as if nothing were ever taken away and nothing that mustn't be so were in the way."""


class Eased:
    """The facts that are so, and row by row what each act needs and brings.

    Two facts stand behind the task's own: one that is always so, for the acts that need nothing, and
    the end, which is brought by one more act that needs what is wanted.
    """

    def __init__(self, task):
        always = 1 << task.facts
        self.end = task.facts + 1
        self.so = task.so | always
        self.needs = [act.needs or always for act in task.acts] + [task.wanted or always]
        self.brings = [act.brings for act in task.acts] + [1 << self.end]


def facts_in(group):
    return [fact for fact in range(group.bit_length()) if (group >> fact) & 1]


def row_worth(needed, worths):
    """What a row of needed facts, never an empty one, is worth: None if it can't be had."""
    each = [worths[fact] for fact in facts_in(needed)]
    return None if None in each else max(each)


def fact_worth(eased, prices, worths, fact):
    if (eased.so >> fact) & 1:
        return 0
    least = None
    for number, needed in enumerate(eased.needs):
        worth = row_worth(needed, worths)
        if (eased.brings[number] >> fact) & 1 and worth is not None:
            way = prices[number] + worth
            least = way if least is None else min(least, way)
    return least


def fact_worths(eased, prices):
    """What each fact is worth, None for what can't be had."""
    # The greatest numbers are asked for, so all begins as what can't be had and only comes down.
    earlier = []
    worths = [None for fact in range(eased.end + 1)]
    while worths != earlier:
        earlier = worths
        worths = [fact_worth(eased, prices, earlier, fact) for fact in range(eased.end + 1)]
    return worths
