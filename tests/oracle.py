"""The document's words once more, written another way: by sets of facts, by searching through all plans."""

import heapq
import itertools
import math


class Oracle:
    def __init__(self, facts, so, wanted, rows):
        self.facts = facts
        self.so = so
        self.wanted = wanted
        self.rows = rows

    def states(self):
        return range(2 ** self.facts)

    def steps(self, state):
        """Each act that may be done in the state, with the state behind it."""
        for number, (needs, bars, brings, takes, cost) in enumerate(self.rows):
            have = members(state)
            if members(needs) <= have and not members(bars) & have:
                yield number, cost, as_number((have - members(takes)) | members(brings))

    def is_wanted(self, state):
        return members(self.wanted) <= members(state)

    def cheapest(self, first):
        """The cost and the acts of the first of the cheapest plans from a state, or None."""
        heap = [(0, (), first)]
        done = set()
        while heap:
            cost, acts, state = heapq.heappop(heap)
            if self.is_wanted(state):
                return cost, list(acts)
            if state not in done:
                done.add(state)
                for number, price, end in self.steps(state):
                    heapq.heappush(heap, (cost + price, acts + (number,), end))
        return None

    def own(self, kind):
        found = [self.plan, self.table, self.cuts, self.set, self.clauses][kind]()
        return [-6] if found is None else found

    def plan(self):
        best = self.cheapest(self.so)
        return None if best is None else [best[0]] + best[1]

    def table(self):
        best = [self.cheapest(state) for state in self.states()]
        if best[self.so] is None:
            return None
        most = max(one[0] for one in best if one is not None)
        return [best[self.so][0]] + [most if one is None else one[0] for one in best]

    def set(self):
        if self.cheapest(self.so) is not None:
            return None
        known = {self.so}
        while True:
            more = known | {end for state in known for _, _, end in self.steps(state)}
            if more == known:
                return [0, len(known)] + sorted(known)
            known = more

    def clauses(self):
        literals = range(2 * self.facts)
        clauses = [pair for pair in itertools.combinations_with_replacement(literals, 2)
                   if len(self.models([pair])) < 2 ** self.facts]
        for size in range(3):
            for row in itertools.combinations(clauses, size):
                if self.takes(row):
                    return [0, size] + [literal for clause in row for literal in clause]
        return None

    def models(self, row):
        def holds(clause, state):
            return any((literal // 2 in members(state)) == (literal % 2 == 0) for literal in clause)
        return {state for state in self.states() if all(holds(clause, state) for clause in row)}

    def takes(self, row):
        models = self.models(row)
        kept = all(end in models for state in models for _, _, end in self.steps(state))
        return self.so in models and kept and not any(self.is_wanted(state) for state in models)

    def worths(self, prices):
        """Dijkstra's way: the fact that is had for least is settled, then the next."""
        settled = {"always": 0}
        settled.update({fact: 0 for fact in members(self.so)})
        while True:
            ways = [(price + max(settled[fact] for fact in needs), fact)
                    for needs, brings, price in zip(self.eased_needs(), self.eased_brings(), prices)
                    if needs <= settled.keys() for fact in brings - settled.keys()]
            if not ways:
                return settled
            least = min(way for way, _ in ways)
            settled.update({fact: least for way, fact in ways if way == least})

    def eased_needs(self):
        groups = [row[0] for row in self.rows] + [self.wanted]
        return [members(group) or {"always"} for group in groups]

    def eased_brings(self):
        return [members(row[2]) for row in self.rows] + [{"end"}]

    def cuts(self):
        prices = [row[4] for row in self.rows] + [0]
        if "end" not in self.worths(prices):
            return None
        found = []
        while self.worths(prices)["end"] > 0:
            acts = self.cut(prices)
            least = min(prices[number] for number in acts)
            for number in acts:
                prices[number] -= least
            found.append([least, len(acts)] + acts)
        return [sum(cut[0] for cut in found), len(found)] + [number for cut in found for number in cut]

    def cut(self, prices):
        worths = self.worths(prices)
        dears = [dear(needs, worths) for needs in self.eased_needs()]
        edges = [(number, dears[number], fact) for number, brings in enumerate(self.eased_brings())
                 for fact in brings if dears[number] is not None]
        zone = spread({"end"}, [(to, came) for number, came, to in edges if prices[number] == 0])
        before = spread(members(self.so) | {"always"}, [(came, to) for _, came, to in edges if to not in zone])
        return sorted({number for number, came, to in edges if came in before and to in zone})


def spread(group, ways):
    while True:
        more = group | {to for came, to in ways if came in group}
        if more == group:
            return group
        group = more


def dear(needs, worths):
    if not needs <= worths.keys():
        return None
    return min(needs, key=lambda fact: (-worths[fact], str(fact)))


def members(number):
    return {fact for fact in range(number.bit_length()) if number & 2 ** fact}


def as_number(group):
    return sum(2 ** fact for fact in group)


def goes_round(oracle, acts):
    """Whether what is wanted can be had by other acts than these, nothing taken away, nothing in the way."""
    prices = [math.inf if number in acts else 0 for number in range(len(oracle.rows))] + [0]
    return oracle.worths(prices).get("end", math.inf) == 0
