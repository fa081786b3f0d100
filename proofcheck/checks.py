"""The checker. It draws from the task alone, so that it knows nothing of how a proof was found."""

from proofcheck.tasks import as_wanted
from proofcheck.tasks import behind
from proofcheck.tasks import may_be_done
from proofcheck.tasks import states_of


def plan_check(task, claim, plan):
    """[0] if the plan is taken, else what is wrong with it first."""
    state = task.so
    cost = 0
    for place, number in enumerate(plan):
        if number >= len(task.acts) or not may_be_done(task.acts[number], state):
            return [1, place]
        state = behind(task.acts[number], state)
        cost += task.acts[number].cost
    if not as_wanted(task, state):
        return [2]
    if cost > claim:
        return [3, cost]
    return [0]


def is_true(literal, state):
    return (state >> (literal // 2)) & 1 != literal & 1


def all_hold(clauses, state):
    """Whether each clause, a pair of literals, has one that is true in the state."""
    return all([is_true(clause[0], state) or is_true(clause[1], state) for clause in clauses])


def leads_out(task, clauses, state):
    """Whether an act that may be done in the state leads to one in which not all clauses hold."""
    ends = [behind(act, state) for act in task.acts if may_be_done(act, state)]
    return any([not all_hold(clauses, end) for end in ends])


def clauses_are_taken(task, clauses):
    """Whether the clauses hold at first, are kept by all acts, and keep out what is wanted."""
    if not all_hold(clauses, task.so):
        return False
    for state in states_of(task):
        if all_hold(clauses, state) and (as_wanted(task, state) or leads_out(task, clauses, state)):
            return False
    return True
