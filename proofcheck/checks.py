"""The checker: [0] for a proof that is taken, else what is wrong with it first.

It draws from the task alone, so that it knows nothing of how a proof was found.
"""

from proofcheck.tasks import as_wanted
from proofcheck.tasks import behind
from proofcheck.tasks import may_be_done
from proofcheck.tasks import states_of


def plan_check(task, claim, plan):
    state = task.so
    cost = 0
    for place, number in enumerate(plan):
        if number >= len(task.acts) or not may_be_done(task.acts[number], state):
            return [1, place]
        state = behind(task.acts[number], state)
        cost += task.acts[number].cost
    if not as_wanted(task, state):
        return [2]
    if cost > claim:
        return [3, cost]
    return [0]


def falls_too_fast(act, state, numbers):
    """Whether the act may be done and its cost is less than what the table's number falls by."""
    return may_be_done(act, state) and numbers[state] > act.cost + numbers[behind(act, state)]


def table_check(task, claim, numbers):
    states = states_of(task)
    if len(numbers) != len(states):
        return [1]
    for state in states:
        if as_wanted(task, state) and numbers[state] != 0:
            return [2, state]
    for state in states:
        for number, act in enumerate(task.acts):
            if falls_too_fast(act, state, numbers):
                return [3, state, number]
    if numbers[task.so] < claim:
        return [4, numbers[task.so]]
    return [0]


def had_without(task, cut_acts):
    """The facts that other acts bring, if nothing were ever taken away and nothing were in the way."""
    others = [act for number, act in enumerate(task.acts) if number not in cut_acts]
    earlier = None
    had = task.so
    while had != earlier:
        earlier = had
        for act in others:
            if had & act.needs == act.needs:
                had = had | act.brings
    return had


def cuts_check(task, claim, cuts):
    """A cut is a list: what it is worth, then its acts."""
    for place, cut in enumerate(cuts):
        if as_wanted(task, had_without(task, cut[1:])):
            return [1, place]
    for number, act in enumerate(task.acts):
        # An act told twice in one cut is in that cut once.
        if act.cost < sum([cut[0] for cut in cuts if number in cut[1:]]):
            return [2, number]
    worth = sum([cut[0] for cut in cuts])
    if worth < claim:
        return [3, worth]
    return [0]


def set_check(task, states):
    if task.so not in states:
        return [1]
    for state in states:
        for number, act in enumerate(task.acts):
            if may_be_done(act, state) and behind(act, state) not in states:
                return [2, state, number]
    for state in states:
        if as_wanted(task, state):
            return [3, state]
    return [0]


def is_true(literal, state):
    return (state >> (literal // 2)) & 1 != literal & 1


def holds(clause, state):
    return is_true(clause[0], state) or is_true(clause[1], state)


def first_broken(task, clauses, inside):
    """The first clause, act and state, of those in which all clauses hold, such that the act breaks the clause."""
    for place, clause in enumerate(clauses):
        for number, act in enumerate(task.acts):
            for state in inside:
                if may_be_done(act, state) and not holds(clause, behind(act, state)):
                    return [place, number, state]
    return None


def clauses_check(task, clauses):
    """A clause is a pair of literals."""
    for place, clause in enumerate(clauses):
        if not holds(clause, task.so):
            return [1, place]
    inside = [state for state in states_of(task) if all([holds(clause, state) for clause in clauses])]
    broken = first_broken(task, clauses, inside)
    if broken is not None:
        return [2] + broken
    for state in inside:
        if as_wanted(task, state):
            return [3, state]
    return [0]


def pair_check(task, plan, numbers):
    """[1, the cost] if plan and table are both taken with what the plan costs as their claim, else [0]."""
    cost = sum([task.acts[number].cost for number in plan if number < len(task.acts)])
    if plan_check(task, cost, plan) == [0] and table_check(task, cost, numbers) == [0]:
        return [1, cost]
    return [0]
