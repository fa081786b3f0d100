"""Many lists of calls, drawn from a fixed seed, all ten calls among one another: each against the oracle's house."""

import collections
import random
import unittest

from proofcheck.house import answers
from tests import asking
from tests.oracle import OracleHouse
from tests.test_many_houses import drawn_house, group

MOST = 4294967295
NAMES = ("begins", "act", "from_state", "own", "plan", "table", "cuts", "state_set", "clauses", "pair")


class Drawn:
    """A list of calls as it grows, drawn with an eye on the oracle's house so that proofs are often nearly right."""

    def __init__(self, source):
        self.source = source
        self.house = OracleHouse()
        self.calls = []
        self.expected = []

    def add(self, name, *args):
        self.calls.append((name, getattr(asking, name)(*args)))
        self.expected.append(getattr(self.house, name)(*args))

    @property
    def oracle(self):
        return self.house.oracle

    def number(self, end):
        """A number below the end, now and then one just at it or the greatest of all."""
        return self.source.choice((end, MOST)) if self.source.random() < 0.04 else self.source.randrange(max(end, 1))

    def spoiled(self, row, end):
        """The row, perhaps with one number put in, taken out or put in another's place."""
        row = list(row)
        for _ in range(self.source.choice((0, 0, 1, 1, 2))):
            place = self.source.randrange(len(row) + 1)
            row[place:place + self.source.randrange(2)] = [self.number(end)] * self.source.randrange(2)
        return row[:20]

    def new_house(self):
        drawn = drawn_house(self.source)
        self.add("begins", drawn.facts, drawn.so, drawn.wanted)
        for row in drawn.rows:
            self.add("act", *row)

    def begins(self):
        self.add("begins", self.number(5), self.number(4), self.number(4))

    def act(self):
        facts = self.oracle.facts
        row = [group(self.source, facts, sparse) for sparse in (3, 3, 2, 2)] + [self.source.randint(1, 9)]
        self.add("act", *(row if self.source.random() < 0.7 else self.spoiled(row, 2 ** facts)))

    def from_state(self):
        self.add("from_state", self.number(2 ** self.oracle.facts), self.number(2 ** self.oracle.facts))

    def own(self):
        self.add("own", self.source.choice((0, 1, 2, 3, 4, 4, 5)))

    def acts(self):
        """A walk by acts that may be done, towards what is wanted or anywhere."""
        best = self.oracle.plan()
        if best is not None and self.source.random() < 0.7:
            return self.spoiled(best[1:], len(self.oracle.rows)) if self.source.random() < 0.5 else best[1:]
        acts, state = [], self.oracle.so
        for _ in range(self.source.randrange(8)):
            ways = list(self.oracle.steps(state))
            if ways:
                number, _, state = self.source.choice(ways)
                acts.append(number)
        return acts

    def near(self, number):
        return max(0, number + self.source.choice((-1, 0, 0, 0, 1)))

    def plan(self):
        acts = self.acts()
        cost = sum(self.oracle.rows[number][4] for number in acts if number < len(self.oracle.rows))
        self.add("plan", self.near(cost), *acts)

    def numbers(self):
        """What the cheapest plans cost, or less, or nearly so."""
        best = [self.oracle.cheapest(state) for state in self.oracle.states()]
        numbers = [self.source.choice((0, 7, 1000)) if one is None else one[0] for one in best]
        if self.source.random() < 0.4:
            most = self.source.randrange(max(numbers) + 1)
            numbers = [min(number, most) for number in numbers]
        return numbers if self.source.random() < 0.4 else self.spoiled(numbers, max(numbers) + 2)

    def table(self):
        numbers = self.numbers()
        claim = numbers[self.oracle.so] if self.oracle.so < len(numbers) else 0
        self.add("table", self.near(claim), *numbers)

    def cuts(self):
        own = self.oracle.cuts()
        if own is None or self.source.random() < 0.2:
            lists = [[self.source.randrange(9)] + self.spoiled([], len(self.oracle.rows)) for _ in range(3)]
        else:
            lists = asking.cut_lists(own)
        if self.source.random() < 0.5:
            lists = [self.spoiled(cut, len(self.oracle.rows)) for cut in lists]
        if self.source.random() < 0.3:
            self.source.shuffle(lists)
        self.add("cuts", self.near(sum(cut[0] for cut in lists if cut)), *lists)

    def state_set(self):
        known = [self.oracle.so]
        for state in known:
            known += sorted({end for _, _, end in self.oracle.steps(state)} - set(known))
        if self.source.random() < 0.6:
            known = self.spoiled(known, 2 ** self.oracle.facts + self.source.choice((0, 0, 2)))
        self.source.shuffle(known)
        self.add("state_set", *known)

    def clauses(self):
        own = self.oracle.clauses()
        top = 2 * self.oracle.facts
        if own is None or self.source.random() < 0.3:
            # One literal of each is true in the first state, most often.
            true = [2 * fact + 1 - (self.oracle.so >> fact & 1) for fact in range(self.oracle.facts)]
            firsts = self.source.choice((true, true, range(top)))
            literals = [literal for _ in range(self.source.randrange(5))
                        for literal in (self.source.choice(firsts), self.source.randrange(top))]
        else:
            literals = own[2:]
        self.add("clauses", *(literals if self.source.random() < 0.6 else self.spoiled(literals, top)))

    def pair(self):
        self.add("pair", self.acts(), self.numbers())


def drawn_list(source):
    drawn = Drawn(source)
    length = source.choice((1, 5, 30, 60, 60))
    owns = 0
    while len(drawn.calls) < length:
        if length - len(drawn.calls) > 9 and source.random() < 0.12:
            drawn.new_house()
        name = source.choice(NAMES[1:] * 6 + NAMES[:1])
        if name != "own" or owns < 6:
            owns += name == "own"
            getattr(drawn, name)()
    return drawn


class ManyLists(unittest.TestCase):
    @classmethod
    def setUpClass(cls):
        source = random.Random(20261119)
        cls.lists = [drawn_list(source) for _ in range(250)]

    def test_each_call_is_answered_as_the_oracle_does(self):
        for drawn in self.lists:
            answered = asking.apart(answers(asking.told(call for _, call in drawn.calls)))
            self.assertEqual(len(answered), len(drawn.calls))
            for (name, call), answer, expected in zip(drawn.calls, answered, drawn.expected):
                self.assertEqual(answer, expected, (name, call))

    def test_the_list_stays_and_asked_twice_is_answered_alike(self):
        for drawn in self.lists[:40]:
            calls = asking.told(call for _, call in drawn.calls)
            before = list(calls)
            first = answers(calls)
            self.assertEqual(calls, before)
            self.assertEqual(answers(calls), first)

    def test_without_what_is_refused_all_else_is_answered_alike(self):
        for drawn in self.lists:
            kept = [(call, answer) for (_, call), answer in zip(drawn.calls, drawn.expected) if answer[0] >= 0]
            if kept:
                self.assertEqual(asking.ask(*[call for call, _ in kept]), [answer for _, answer in kept])

    def test_what_is_drawn_has_each_call_and_each_answer(self):
        seen = collections.Counter((name, min(answer[0], 1) if name in ("act", "own") else answer[0])
                                   for drawn in self.lists
                                   for (name, _), answer in zip(drawn.calls, drawn.expected))
        awaited = {"begins": (-1, 0), "act": (-7, -1, 0, 1), "from_state": (-1, 0), "own": (-6, -1, 0, 1),
                   "plan": (0, 1, 2, 3), "table": (0, 1, 2, 3, 4), "cuts": (-1, 0, 1, 2, 3),
                   "state_set": (-1, 0, 1, 2, 3), "clauses": (-1, 0, 1, 2, 3), "pair": (0, 1)}
        for name, firsts in awaited.items():
            for first in firsts:
                self.assertGreaterEqual(seen[name, first], 10, (name, first))
        self.assertEqual(max(len(drawn.calls) for drawn in self.lists), 60)


if __name__ == "__main__":
    unittest.main()
