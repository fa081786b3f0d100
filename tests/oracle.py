"""The document's words once more, written another way: by sets of facts, by searching through all plans."""

import heapq
import itertools
import math


class Oracle:
    def __init__(self, facts, so, wanted, rows):
        self.facts = facts
        self.so = so
        self.wanted = wanted
        self.rows = rows

    def states(self):
        return range(2 ** self.facts)

    def steps(self, state):
        """Each act that may be done in the state, with the state behind it."""
        for number, (needs, bars, brings, takes, cost) in enumerate(self.rows):
            have = members(state)
            if members(needs) <= have and not members(bars) & have:
                yield number, cost, as_number((have - members(takes)) | members(brings))

    def is_wanted(self, state):
        return members(self.wanted) <= members(state)

    def cheapest(self, first):
        """The cost and the acts of the first of the cheapest plans from a state, or None."""
        heap = [(0, (), first)]
        done = set()
        while heap:
            cost, acts, state = heapq.heappop(heap)
            if self.is_wanted(state):
                return cost, list(acts)
            if state not in done:
                done.add(state)
                for number, price, end in self.steps(state):
                    heapq.heappush(heap, (cost + price, acts + (number,), end))
        return None

    def own(self, kind):
        found = [self.plan, self.table, self.cuts, self.set, self.clauses][kind]()
        return [-6] if found is None else found

    def plan(self):
        best = self.cheapest(self.so)
        return None if best is None else [best[0]] + best[1]

    def table(self):
        best = [self.cheapest(state) for state in self.states()]
        if best[self.so] is None:
            return None
        most = max(one[0] for one in best if one is not None)
        return [best[self.so][0]] + [most if one is None else one[0] for one in best]

    def set(self):
        if self.cheapest(self.so) is not None:
            return None
        known = {self.so}
        while True:
            more = known | {end for state in known for _, _, end in self.steps(state)}
            if more == known:
                return [0, len(known)] + sorted(known)
            known = more

    def clauses(self):
        literals = range(2 * self.facts)
        clauses = [pair for pair in itertools.combinations_with_replacement(literals, 2)
                   if len(self.models([pair])) < 2 ** self.facts]
        for size in range(3):
            for row in itertools.combinations(clauses, size):
                if self.takes(row):
                    return [0, size] + [literal for clause in row for literal in clause]
        return None

    def models(self, row):
        def holds(clause, state):
            return any((literal // 2 in members(state)) == (literal % 2 == 0) for literal in clause)
        return {state for state in self.states() if all(holds(clause, state) for clause in row)}

    def takes(self, row):
        models = self.models(row)
        kept = all(end in models for state in models for _, _, end in self.steps(state))
        return self.so in models and kept and not any(self.is_wanted(state) for state in models)

    def worths(self, prices):
        """Dijkstra's way: the fact that is had for least is settled, then the next."""
        settled = {"always": 0}
        settled.update({fact: 0 for fact in members(self.so)})
        while True:
            ways = [(price + max(settled[fact] for fact in needs), fact)
                    for needs, brings, price in zip(self.eased_needs(), self.eased_brings(), prices)
                    if needs <= settled.keys() for fact in brings - settled.keys()]
            if not ways:
                return settled
            least = min(way for way, _ in ways)
            settled.update({fact: least for way, fact in ways if way == least})

    def eased_needs(self):
        groups = [row[0] for row in self.rows] + [self.wanted]
        return [members(group) or {"always"} for group in groups]

    def eased_brings(self):
        return [members(row[2]) for row in self.rows] + [{"end"}]

    def cuts(self):
        prices = [row[4] for row in self.rows] + [0]
        if "end" not in self.worths(prices):
            return None
        found = []
        while self.worths(prices)["end"] > 0:
            acts = self.cut(prices)
            least = min(prices[number] for number in acts)
            for number in acts:
                prices[number] -= least
            found.append([least, len(acts)] + acts)
        return [sum(cut[0] for cut in found), len(found)] + [number for cut in found for number in cut]

    def cut(self, prices):
        worths = self.worths(prices)
        dears = [dear(needs, worths) for needs in self.eased_needs()]
        edges = [(number, dears[number], fact) for number, brings in enumerate(self.eased_brings())
                 for fact in brings if dears[number] is not None]
        zone = spread({"end"}, [(to, came) for number, came, to in edges if prices[number] == 0])
        before = spread(members(self.so) | {"always"}, [(came, to) for _, came, to in edges if to not in zone])
        return sorted({number for number, came, to in edges if came in before and to in zone})


def spread(group, ways):
    while True:
        more = group | {to for came, to in ways if came in group}
        if more == group:
            return group
        group = more


def dear(needs, worths):
    if not needs <= worths.keys():
        return None
    return min(needs, key=lambda fact: (-worths[fact], str(fact)))


def members(number):
    return {fact for fact in range(number.bit_length()) if number & 2 ** fact}


def as_number(group):
    return sum(2 ** fact for fact in group)


def goes_round(oracle, acts):
    """Whether what is wanted can be had by other acts than these, nothing taken away, nothing in the way."""
    prices = [math.inf if number in acts else 0 for number in range(len(oracle.rows))] + [0]
    return oracle.worths(prices).get("end", math.inf) == 0


def first_of(wrongs):
    """What is wrong first: the rows begin with the number of what's wrong, then what tells which is lowest."""
    return list(min(wrongs, default=(0,)))


class Checker:
    """Each check by gathering all that is wrong, and only then taking what comes first."""

    def __init__(self, oracle):
        self.oracle = oracle

    def plan(self, claim, acts):
        states = [self.oracle.so]
        for place, number in enumerate(acts):
            ends = [end for other, _, end in self.oracle.steps(states[-1]) if other == number]
            if not ends:
                return [1, place]
            states += ends
        cost = self.price(acts)
        return first_of([(2,)] * (not self.oracle.is_wanted(states[-1])) + [(3, cost)] * (cost > claim))

    def price(self, acts):
        return sum(self.oracle.rows[number][4] for number in acts)

    def table(self, claim, numbers):
        oracle = self.oracle
        if len(numbers) != len(oracle.states()):
            return [1]
        first = numbers[oracle.so]
        return first_of([(2, state) for state in oracle.states() if oracle.is_wanted(state) and numbers[state]]
                        + [(3, state, number) for state in oracle.states()
                           for number, cost, end in oracle.steps(state) if numbers[state] - numbers[end] > cost]
                        + [(4, first)] * (first < claim))

    def cuts(self, claim, lists):
        worth = sum(cut[0] for cut in lists)
        left = [row[4] - sum(cut[0] for cut in lists if {number} & set(cut[1:]))
                for number, row in enumerate(self.oracle.rows)]
        return first_of([(1, place) for place, cut in enumerate(lists) if goes_round(self.oracle, cut[1:])]
                        + [(2, number) for number, price in enumerate(left) if price < 0]
                        + [(3, worth)] * (worth < claim))

    def state_set(self, states):
        ways = [(place, number, end) for place, state in enumerate(states)
                for number, _, end in self.oracle.steps(state)]
        wrong = first_of([(1,)] * (self.oracle.so not in set(states))
                         + [(2, place, number) for place, number, end in ways if end not in set(states)]
                         + [(3, place) for place, state in enumerate(states) if self.oracle.is_wanted(state)])
        return wrong[:1] + [states[place] for place in wrong[1:2]] + wrong[2:]

    def clauses(self, literals):
        oracle = self.oracle
        row = list(zip(literals[::2], literals[1::2]))
        models = oracle.models(row)
        each = [oracle.models([clause]) for clause in row]
        return first_of([(1, place) for place, where in enumerate(each) if oracle.so not in where]
                        + [(2, place, number, state) for place, where in enumerate(each) for state in models
                           for number, _, end in oracle.steps(state) if end not in where]
                        + [(3, state) for state in models if oracle.is_wanted(state)])

    def pair(self, acts, numbers):
        if any(number >= len(self.oracle.rows) for number in acts):
            return [0]
        cost = self.price(acts)
        both = self.plan(cost, acts) == self.table(cost, numbers) == [0]
        return [1, cost] if both else [0]


class OracleHouse:
    """The house call by call, with what it refuses."""

    def __init__(self):
        self.oracle = Oracle(1, 0, 0, [])

    def are_there(self, *groups):
        return all(group < 2 ** self.oracle.facts for group in groups)

    def begins(self, facts, so, wanted):
        if facts not in (1, 2, 3, 4) or max(so, wanted) >= 2 ** facts:
            return [-1]
        self.oracle = Oracle(facts, so, wanted, [])
        return [0]

    def act(self, *row):
        if len(self.oracle.rows) == 8:
            return [-7]
        if len(row) != 5 or not self.are_there(*row[:4]) or row[4] not in range(1, 1001):
            return [-1]
        self.oracle.rows.append(row)
        return [len(self.oracle.rows) - 1]

    def from_state(self, so, wanted):
        if not self.are_there(so, wanted):
            return [-1]
        self.oracle.so, self.oracle.wanted = so, wanted
        return [0]

    def own(self, kind):
        return self.oracle.own(kind) if kind in range(5) else [-1]

    def plan(self, claim, *acts):
        return Checker(self.oracle).plan(claim, acts)

    def table(self, claim, *numbers):
        return Checker(self.oracle).table(claim, numbers)

    def cuts(self, claim, *lists):
        if any(not cut or max(cut[1:], default=-1) >= len(self.oracle.rows) for cut in lists):
            return [-1]
        return Checker(self.oracle).cuts(claim, lists)

    def state_set(self, *states):
        return Checker(self.oracle).state_set(states) if self.are_there(*states) else [-1]

    def clauses(self, *literals):
        if len(literals) % 2 or any(literal // 2 >= self.oracle.facts for literal in literals):
            return [-1]
        return Checker(self.oracle).clauses(literals)

    def pair(self, acts, numbers):
        return Checker(self.oracle).pair(acts, numbers)
