"""What the house finds out about plans: what they cost, the first of the cheapest, where one can come to."""

from proofcheck.tasks import as_wanted
from proofcheck.tasks import behind
from proofcheck.tasks import may_be_done
from proofcheck.tasks import states_of


def cost_through(act, state, costs):
    """What the cheapest plan costs that begins with this act, by the costs told; None if there is none."""
    if not may_be_done(act, state) or costs[behind(act, state)] is None:
        return None
    return act.cost + costs[behind(act, state)]


def cost_from(task, state, costs):
    if as_wanted(task, state):
        return 0
    ways = [cost_through(act, state, costs) for act in task.acts]
    return min([way for way in ways if way is not None], default=None)


def cheapest_costs(task):
    """For each state what the cheapest plan from it costs, None where there is none."""
    earlier = []
    costs = [None for state in states_of(task)]
    while costs != earlier:
        earlier = costs
        costs = [cost_from(task, state, earlier) for state in states_of(task)]
    return costs


def first_step(task, state, costs):
    """The lowest act with which a cheapest plan from the state begins."""
    ways = [cost_through(act, state, costs) for act in task.acts]
    return ways.index(costs[state])


def first_cheapest_plan(task, costs):
    """The first of the cheapest plans; there has to be one."""
    plan = []
    state = task.so
    while not as_wanted(task, state):
        number = first_step(task, state, costs)
        plan.append(number)
        state = behind(task.acts[number], state)
    return plan


def states_behind(task, state):
    return [behind(act, state) for act in task.acts if may_be_done(act, state)]


def states_come_to(task):
    """All states that can be come to from the first one, and it, rising."""
    found = [task.so]
    place = 0
    while place < len(found):
        ends = states_behind(task, found[place])
        for state in ends:
            if state not in found:
                found.append(state)
        place += 1
    return sorted(found)
