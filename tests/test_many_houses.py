"""Many houses, drawn from a fixed seed: the house's own proofs against the document's words written another way."""

import random
import unittest

from tests.asking import act, ask, begins, cut_lists, own, pair, plan, taking
from tests.oracle import Oracle, goes_round


def group(source, facts, sparse):
    """A set of facts, with fewer in it the higher sparse is."""
    drawn = 2 ** facts - 1
    for _ in range(sparse):
        drawn &= source.randrange(2 ** facts)
    return drawn


def drawn_house(source):
    facts = source.choice((1, 2, 3, 3, 4, 4, 4))
    sparse = source.choice((1, 2, 3))
    most = source.choice((1, 2, 5, 1000))
    rows = [(group(source, facts, sparse), group(source, facts, 3), group(source, facts, source.choice((1, 2))),
             group(source, facts, 2), source.randint(1, most)) for _ in range(source.choice((0, 2, 4, 6, 8, 8)))]
    return Oracle(facts, group(source, facts, source.choice((1, 3, 3))), group(source, facts, 1), rows)


def calls_of(oracle):
    return [begins(oracle.facts, oracle.so, oracle.wanted)] + [act(*row) for row in oracle.rows]


def own_proofs(oracle):
    return ask(*calls_of(oracle), *[own(kind) for kind in range(5)])[-5:]


class ManyHouses(unittest.TestCase):
    @classmethod
    def setUpClass(cls):
        source = random.Random(20261118)
        houses = [drawn_house(source) for _ in range(800)]
        cls.proved = [(oracle, own_proofs(oracle)) for oracle in houses]

    def test_all_kinds(self):
        for oracle, proofs in self.proved:
            self.assertEqual(proofs, [oracle.own(kind) for kind in range(5)], vars(oracle))

    def test_a_plan_is_had_or_there_is_none(self):
        for _, proofs in self.proved:
            self.assertNotEqual(proofs[0] == [-6], proofs[3] == [-6])
            self.assertEqual(proofs[0] == [-6], proofs[1] == [-6])
            self.assertTrue(proofs[4] == [-6] or proofs[0] == [-6])

    def test_the_own_plan_is_taken_with_its_claim_and_no_lower_one(self):
        for oracle, proofs in self.proved:
            cost, *acts = proofs[0]
            if cost > 0:
                checks = ask(*calls_of(oracle), plan(cost, *acts), plan(cost - 1, *acts))
                self.assertEqual(checks[-2:], [[0], [3, cost]])

    def test_each_own_proof_is_taken(self):
        for oracle, proofs in self.proved:
            calls = [taking(kind, proof) for kind, proof in enumerate(proofs) if proof != [-6]]
            self.assertEqual(ask(*calls_of(oracle), *calls)[1 + len(oracle.rows):], [[0]] * len(calls), vars(oracle))

    def test_own_tables_and_cuts_are_not_taken_with_a_greater_claim(self):
        for oracle, proofs in self.proved:
            for kind, number in ((1, 4), (2, 3)):
                if proofs[kind] != [-6]:
                    claim, *rest = proofs[kind]
                    checked = ask(*calls_of(oracle), taking(kind, [claim + 1] + rest))
                    self.assertEqual(checked[-1], [number, claim])

    def test_own_plan_and_table_are_taken_as_a_pair(self):
        for oracle, proofs in self.proved:
            if proofs[0] != [-6]:
                checked = ask(*calls_of(oracle), pair(proofs[0][1:], proofs[1][1:]))
                self.assertEqual(checked[-1], [1, proofs[0][0]])

    def test_own_cuts_bound_what_a_plan_costs(self):
        for oracle, proofs in self.proved:
            if proofs[2] != [-6]:
                self.check_cuts(oracle, proofs[2])
                self.assertTrue(proofs[0] == [-6] or proofs[2][0] <= proofs[0][0])

    def check_cuts(self, oracle, proof):
        left = [row[4] for row in oracle.rows]
        for worth, *acts in cut_lists(proof):
            self.assertFalse(goes_round(oracle, acts))
            self.assertGreater(worth, 0)
            left = [price - worth * (number in acts) for number, price in enumerate(left)]
        self.assertGreaterEqual(min(left, default=0), 0)


if __name__ == "__main__":
    unittest.main()
