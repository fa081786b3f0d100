"""The house: it is asked call by call and answers each with a row of numbers, a refusal with one below 0."""

from proofcheck.checks import clauses_check
from proofcheck.checks import cuts_check
from proofcheck.checks import pair_check
from proofcheck.checks import plan_check
from proofcheck.checks import set_check
from proofcheck.checks import table_check
from proofcheck.own import is_kind
from proofcheck.own import own_proof
from proofcheck.reading import read_calls
from proofcheck.tasks import Act
from proofcheck.tasks import Task
from proofcheck.tasks import are_there

MOST_FACTS = 4
MOST_ACTS = 8
MOST_COST = 1000

BEGINS = 0
ACT = 1
FROM_STATE = 2
OWN = 3
PLAN = 4
TABLE = 5
CUTS = 6
SET = 7
CLAUSES = 8


def is_act_row(row, facts):
    if len(row) != 5 or not 1 <= row[4] <= MOST_COST:
        return False
    return all([are_there(facts, group) for group in row[:4]])


def are_below(end, numbers):
    return all([number < end for number in numbers])


def is_cut(cut, acts):
    """Whether it has what it's worth, and behind that only acts that there are."""
    return len(cut) > 0 and are_below(len(acts), cut[1:])


class House:
    """One task and the calls about it. A task is put in another's place whole, so a refusal changes nothing."""

    def __init__(self):
        self.task = Task(1, 0, 0, [])

    def begins(self, facts, so, wanted):
        if not 1 <= facts <= MOST_FACTS or not are_there(facts, so | wanted):
            return [-1]
        self.task = Task(facts, so, wanted, [])
        return [0]

    def act(self, row):
        task = self.task
        if len(task.acts) == MOST_ACTS:
            return [-7]
        if not is_act_row(row, task.facts):
            return [-1]
        told = Act(row[0], row[1], row[2], row[3], row[4])
        self.task = Task(task.facts, task.so, task.wanted, task.acts + [told])
        return [len(task.acts)]

    def from_state(self, so, wanted):
        task = self.task
        if not are_there(task.facts, so | wanted):
            return [-1]
        self.task = Task(task.facts, so, wanted, task.acts)
        return [0]

    def own(self, kind):
        if not is_kind(kind):
            return [-1]
        proof = own_proof(self.task, kind)
        return [-6] if proof is None else proof

    def plan(self, claim, acts):
        return plan_check(self.task, claim, acts)

    def table(self, claim, numbers):
        return table_check(self.task, claim, numbers)

    def cuts(self, claim, told):
        if not all([is_cut(cut, self.task.acts) for cut in told]):
            return [-1]
        return cuts_check(self.task, claim, told)

    def state_set(self, states):
        if not all([are_there(self.task.facts, state) for state in states]):
            return [-1]
        return set_check(self.task, states)

    def clauses(self, literals):
        if len(literals) % 2 != 0 or not are_below(2 * self.task.facts, literals):
            return [-1]
        told = [(literals[at], literals[at + 1]) for at in range(0, len(literals), 2)]
        return clauses_check(self.task, told)

    def pair(self, acts, numbers):
        return pair_check(self.task, acts, numbers)


def answer(house, call):
    if call.number == BEGINS:
        return house.begins(call.numbers[0], call.numbers[1], call.numbers[2])
    if call.number == ACT:
        return house.act(call.lists[0])
    if call.number == FROM_STATE:
        return house.from_state(call.numbers[0], call.numbers[1])
    if call.number == OWN:
        return house.own(call.numbers[0])
    if call.number == PLAN:
        return house.plan(call.numbers[0], call.lists[0])
    if call.number == TABLE:
        return house.table(call.numbers[0], call.lists[0])
    if call.number == CUTS:
        return house.cuts(call.numbers[0], call.lists)
    if call.number == SET:
        return house.state_set(call.lists[0])
    if call.number == CLAUSES:
        return house.clauses(call.lists[0])
    return house.pair(call.lists[0], call.lists[1])


def answers(calls):
    """What the calls on a new house answer, in order, each with how many numbers it has ahead of it."""
    house = House()
    told = []
    for call in read_calls(calls):
        row = answer(house, call)
        told.append(len(row))
        told.extend(row)
    return told
