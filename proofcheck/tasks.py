"""Facts, states, acts, and the task they make up. A set of facts is a number, bit k for fact k."""


class Act:
    """What has to be so, what mustn't be, what the act brings, what it takes away, and its cost."""

    def __init__(self, needs, bars, brings, takes, cost):
        self.needs = needs
        self.bars = bars
        self.brings = brings
        self.takes = takes
        self.cost = cost


class Task:
    """How many facts there are, what is so at first, what is wanted, and the acts. It is never changed."""

    def __init__(self, facts, so, wanted, acts):
        self.facts = facts
        self.so = so
        self.wanted = wanted
        self.acts = acts


def are_there(facts, group):
    return group >> facts == 0


def states_of(task):
    return list(range(1 << task.facts))


def as_wanted(task, state):
    return state & task.wanted == task.wanted


def may_be_done(act, state):
    return state & act.needs == act.needs and state & act.bars == 0


def behind(act, state):
    # What is brought is put in last: a fact that is both brought and taken away is so.
    return (state & ~act.takes) | act.brings
