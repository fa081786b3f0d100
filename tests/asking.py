"""Calls written as the interface tells them, and the answers taken apart again."""

from proofcheck.house import answers


def begins(facts, so, wanted):
    return [0, 3, facts, so, wanted, 0]


def act(*row):
    return [1, 0, 1, len(row), *row]


def from_state(so, wanted):
    return [2, 2, so, wanted, 0]


def own(kind):
    return [3, 1, kind, 0]


def plan(claim, *acts):
    return [4, 1, claim, 1, len(acts), *acts]


def told(calls):
    """The calls one behind another in one list."""
    return [number for call in calls for number in call]


def apart(answered):
    """One list of answers as a list of answers."""
    rows = []
    at = 0
    while at < len(answered):
        rows.append(answered[at + 1:at + 1 + answered[at]])
        at += 1 + answered[at]
    return rows


def ask(*calls):
    """What each of the calls on a new house answers."""
    return apart(answers(told(calls)))


def last(*calls):
    """What the last of the calls on a new house answers."""
    return ask(*calls)[-1]
