"""own of kind 2: the worth of facts, and the cuts found one behind another."""

import unittest

from tests.asking import act, begins, cut_lists, last, own


def cuts(*house):
    """The claim, then each cut as its worth and its acts; or the refusal."""
    told = last(*house, own(2))
    if len(told) == 1:
        return told
    found = cut_lists(told)
    assert len(found) == told[1]
    return [told[0]] + [(cut[0], cut[1:]) for cut in found]


class HowTold(unittest.TestCase):
    def test_number_by_number(self):
        house = [begins(2, 0, 2), act(0, 0, 1, 0, 2), act(1, 0, 2, 0, 3), act(1, 0, 2, 0, 5)]
        self.assertEqual(last(*house, own(2)), [5, 2, 3, 2, 1, 2, 2, 1, 0])


class NoneAtAll(unittest.TestCase):
    def test_all_as_wanted_from_the_first(self):
        self.assertEqual(last(begins(2, 1, 1), act(0, 0, 2, 0, 3), own(2)), [0, 0])
        self.assertEqual(last(begins(2, 0, 0), act(0, 0, 2, 0, 3), own(2)), [0, 0])

    def test_what_cannot_be_had(self):
        self.assertEqual(cuts(begins(1, 0, 1)), [-6])
        self.assertEqual(cuts(begins(2, 0, 3), act(0, 0, 1, 0, 3)), [-6])

    def test_facts_that_bring_each_other_alone(self):
        self.assertEqual(cuts(begins(2, 0, 3), act(1, 0, 2, 0, 1), act(2, 0, 1, 0, 1)), [-6])


class AsIfNothingWere(unittest.TestCase):
    def test_in_the_way(self):
        self.assertEqual(cuts(begins(2, 2, 1), act(0, 2, 1, 0, 4)), [4, (4, [0])])

    def test_taken_away(self):
        house = [begins(2, 0, 3), act(0, 0, 1, 2, 3), act(0, 0, 2, 1, 4)]
        self.assertEqual(cuts(*house), [7, (4, [1]), (3, [0])])


class OneBehindAnother(unittest.TestCase):
    def test_acts_for_the_same_fact(self):
        self.assertEqual(cuts(begins(1, 0, 1), act(0, 0, 1, 0, 5), act(0, 0, 1, 0, 3)), [3, (3, [0, 1])])

    def test_a_chain_from_its_end(self):
        house = [begins(3, 0, 4), act(0, 0, 1, 0, 2), act(1, 0, 2, 0, 3), act(2, 0, 4, 0, 7)]
        self.assertEqual(cuts(*house), [12, (7, [2]), (3, [1]), (2, [0])])

    def test_what_is_left_of_a_price(self):
        # Fact 1 by act 1 alone, or by act 2 behind act 0: three are left of act 1 behind the first cut.
        house = [begins(2, 0, 2), act(0, 0, 1, 0, 2), act(0, 0, 2, 0, 4), act(1, 0, 2, 0, 1)]
        self.assertEqual(cuts(*house), [3, (1, [1, 2]), (2, [0, 1])])

    def test_what_costs_nothing_any_more_but_leads_elsewhere(self):
        # Behind the first cut act 1 has the price 0, but brings nothing of the zone, which is fact 2 then.
        house = [begins(3, 0, 6), act(0, 0, 1, 0, 1), act(1, 0, 2, 0, 5), act(0, 0, 4, 0, 4)]
        self.assertEqual(cuts(*house), [10, (5, [1]), (4, [2]), (1, [0])])

    def test_acts_that_need_nothing_beside_one_that_needs_what_is_so(self):
        house = [begins(2, 1, 2), act(1, 0, 2, 0, 4), act(0, 0, 2, 0, 6)]
        self.assertEqual(cuts(*house), [4, (4, [0, 1])])

    def test_an_act_whose_needed_facts_cannot_be_had(self):
        house = [begins(3, 0, 1), act(4, 0, 1, 0, 1), act(0, 0, 1, 0, 5)]
        self.assertEqual(cuts(*house), [5, (5, [1])])

    def test_an_act_that_brings_two_wanted_facts(self):
        house = [begins(2, 0, 3), act(0, 0, 3, 0, 5), act(0, 0, 1, 0, 2), act(0, 0, 2, 0, 4)]
        self.assertEqual(cuts(*house), [5, (4, [0, 2]), (1, [0, 1])])

    def test_facts_that_bring_each_other_for_nothing_later(self):
        house = [begins(2, 0, 3), act(0, 0, 1, 0, 9), act(1, 0, 2, 0, 1), act(2, 0, 1, 0, 1), act(0, 0, 2, 0, 9)]
        self.assertEqual(cuts(*house), [10, (1, [0, 2]), (1, [1, 3]), (8, [0, 3])])


class WorthTheSame(unittest.TestCase):
    def test_the_lowest_wanted_fact_first(self):
        house = [begins(2, 0, 3), act(0, 0, 2, 0, 3), act(0, 0, 1, 0, 3)]
        self.assertEqual(cuts(*house), [6, (3, [1]), (3, [0])])

    def test_the_dearer_fact_ahead_of_the_lower(self):
        house = [begins(2, 0, 3), act(0, 0, 2, 0, 4), act(0, 0, 1, 0, 3)]
        self.assertEqual(cuts(*house), [7, (4, [0]), (3, [1])])

    def test_the_lowest_needed_fact_of_an_act(self):
        house = [begins(3, 0, 4), act(3, 0, 4, 0, 1), act(0, 0, 2, 0, 3), act(0, 0, 1, 0, 3)]
        self.assertEqual(cuts(*house), [7, (1, [0]), (3, [2]), (3, [1])])

    def test_an_act_whose_needed_facts_are_all_so(self):
        house = [begins(3, 3, 4), act(3, 0, 4, 0, 6), act(2, 0, 4, 0, 8)]
        self.assertEqual(cuts(*house), [6, (6, [0, 1])])


if __name__ == "__main__":
    unittest.main()
