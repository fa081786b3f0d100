"""The house's own proofs, told number by number: the claim, then the proof. None where the house has none."""

from proofcheck.clauses import find_clauses
from proofcheck.cuts import find_cuts
from proofcheck.plans import cheapest_costs
from proofcheck.plans import first_cheapest_plan
from proofcheck.plans import states_come_to

PLAN = 0
TABLE = 1
CUTS = 2
STATES = 3
CLAUSES = 4


def is_kind(kind):
    return kind <= CLAUSES


def own_plan(task):
    costs = cheapest_costs(task)
    if costs[task.so] is None:
        return None
    return [costs[task.so]] + first_cheapest_plan(task, costs)


def own_table(task):
    costs = cheapest_costs(task)
    if costs[task.so] is None:
        return None
    greatest = max([cost for cost in costs if cost is not None])
    return [costs[task.so]] + [greatest if cost is None else cost for cost in costs]


def own_cuts(task):
    cuts = find_cuts(task)
    if cuts is None:
        return None
    told = [sum([cut.worth for cut in cuts]), len(cuts)]
    for cut in cuts:
        told.extend([cut.worth, len(cut.acts)] + cut.acts)
    return told


def own_states(task):
    if cheapest_costs(task)[task.so] is not None:
        return None
    states = states_come_to(task)
    return [0, len(states)] + states


def own_clauses(task):
    clauses = find_clauses(task)
    if clauses is None:
        return None
    told = [0, len(clauses)]
    for clause in clauses:
        told.extend([clause[0], clause[1]])
    return told


def own_proof(task, kind):
    if kind == PLAN:
        return own_plan(task)
    if kind == TABLE:
        return own_table(task)
    if kind == CUTS:
        return own_cuts(task)
    if kind == STATES:
        return own_states(task)
    return own_clauses(task)
