"""Calls written as the interface tells them, and the answers taken apart again."""

from proofcheck.house import answers


def begins(facts, so, wanted):
    return [0, 3, facts, so, wanted, 0]


def act(*row):
    return [1, 0, 1, len(row), *row]


def from_state(so, wanted):
    return [2, 2, so, wanted, 0]


def own(kind):
    return [3, 1, kind, 0]


def plan(claim, *acts):
    return [4, 1, claim, 1, len(acts), *acts]


def table(claim, *numbers):
    return [5, 1, claim, 1, len(numbers), *numbers]


def cuts(claim, *lists):
    return [6, 1, claim, len(lists), *told([len(cut), *cut] for cut in lists)]


def state_set(*states):
    return [7, 0, 1, len(states), *states]


def clauses(*literals):
    return [8, 0, 1, len(literals), *literals]


def pair(acts, numbers):
    return [9, 0, 2, len(acts), *acts, len(numbers), *numbers]


def cut_lists(proof):
    """The cuts of the house's own proof of kind 2, each as a list: its worth, then its acts."""
    found = []
    at = 2
    while at < len(proof):
        found.append([proof[at], *proof[at + 2:at + 2 + proof[at + 1]]])
        at += 2 + proof[at + 1]
    return found


def taking(kind, proof):
    """The call that hands the house's own proof of a kind back to it, with the claim told."""
    claim, *rest = proof
    if kind == 2:
        return cuts(claim, *cut_lists(proof))
    return {0: plan, 1: table}[kind](claim, *rest) if kind < 2 else {3: state_set, 4: clauses}[kind](*rest[1:])


def told(calls):
    """The calls one behind another in one list."""
    return [number for call in calls for number in call]


def apart(answered):
    """One list of answers as a list of answers."""
    rows = []
    at = 0
    while at < len(answered):
        rows.append(answered[at + 1:at + 1 + answered[at]])
        at += 1 + answered[at]
    return rows


def ask(*calls):
    """What each of the calls on a new house answers."""
    return apart(answers(told(calls)))


def last(*calls):
    """What the last of the calls on a new house answers."""
    return ask(*calls)[-1]
