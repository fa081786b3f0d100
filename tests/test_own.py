"""own: the house's own proofs of kinds 0, 1 and 3, and what is refused."""

import unittest

from tests.asking import act, ask, begins, from_state, last, own, plan

MOST = 4294967295


class Refused(unittest.TestCase):
    def test_a_kind_that_there_is_not(self):
        self.assertEqual([last(own(kind)) for kind in (5, 6, MOST)], [[-1], [-1], [-1]])

    def test_ahead_of_a_house_that_has_none(self):
        self.assertEqual(ask(begins(1, 0, 1), own(0), own(5)), [[0], [-6], [-1]])

    def test_all_is_as_it_was(self):
        self.assertEqual(ask(begins(1, 0, 1), act(0, 0, 1, 0, 2), own(3), own(9), own(0), plan(2, 0)),
                         [[0], [0], [-6], [-1], [2, 0], [0]])


class WhichKindsThereAre(unittest.TestCase):
    def kinds(self, *house):
        """Of each kind whether the house has a proof."""
        return [last(*house, own(kind)) != [-6] for kind in range(5)]

    def test_all_as_wanted_from_the_first(self):
        self.assertEqual(self.kinds(begins(2, 3, 2)), [True, True, True, False, False])
        self.assertEqual(self.kinds(begins(2, 0, 0)), [True, True, True, False, False])

    def test_a_plan(self):
        self.assertEqual(self.kinds(begins(1, 0, 1), act(0, 0, 1, 0, 1)), [True, True, True, False, False])

    def test_no_act(self):
        self.assertEqual(self.kinds(begins(2, 0, 1)), [False, False, False, True, True])

    def test_no_plan_but_for_what_is_in_the_way(self):
        self.assertEqual(self.kinds(begins(2, 2, 1), act(0, 2, 1, 0, 1)), [False, False, True, True, True])


class Plan(unittest.TestCase):
    def test_the_cheapest(self):
        self.assertEqual(last(begins(1, 0, 1), act(0, 0, 1, 0, 6), act(0, 0, 1, 0, 5), own(0)), [5, 1])

    def test_two_acts_for_less_than_one(self):
        house = [begins(2, 0, 2), act(0, 0, 2, 0, 8), act(0, 0, 1, 0, 3), act(1, 0, 2, 0, 4)]
        self.assertEqual(last(*house, own(0)), [7, 1, 2])

    def test_all_as_wanted_from_the_first(self):
        self.assertEqual(last(begins(1, 1, 1), act(0, 0, 1, 0, 6), own(0)), [0])
        self.assertEqual(last(begins(4, 9, 0), act(0, 0, 1, 0, 6), own(0)), [0])

    def test_no_act(self):
        self.assertEqual(last(begins(1, 0, 1), own(0)), [-6])

    def test_nothing_that_brings_it(self):
        self.assertEqual(last(begins(2, 0, 3), act(0, 0, 1, 0, 6), own(0)), [-6])

    def test_what_is_brought_and_taken_away_in_turn(self):
        house = [begins(2, 0, 3), act(0, 0, 1, 2, 1), act(0, 0, 2, 1, 1)]
        self.assertEqual(last(*house, own(0)), [-6])
        self.assertEqual(last(*house, act(1, 2, 3, 1, 9), own(0)), [10, 0, 2])

    def test_one_that_goes_away_from_what_is_wanted_first(self):
        house = [begins(2, 1, 3), act(1, 0, 0, 1, 2), act(0, 1, 2, 0, 3), act(2, 0, 1, 0, 4)]
        self.assertEqual(last(*house, own(0)), [9, 0, 1, 2])

    def test_as_cheap_ones_that_differ_at_the_first_place(self):
        self.assertEqual(last(begins(2, 0, 3), act(0, 0, 1, 0, 3), act(0, 0, 2, 0, 4), own(0)), [7, 0, 1])
        self.assertEqual(last(begins(2, 0, 3), act(0, 0, 2, 0, 4), act(0, 0, 1, 0, 3), own(0)), [7, 0, 1])

    def test_as_cheap_ones_that_differ_at_a_later_place(self):
        house = [begins(2, 0, 2), act(1, 0, 2, 0, 4), act(1, 0, 2, 0, 4), act(0, 0, 1, 0, 3)]
        self.assertEqual(last(*house, own(0)), [7, 2, 0])

    def test_the_first_place_counts_before_a_later_one(self):
        house = [begins(3, 0, 4), act(2, 0, 4, 0, 5), act(0, 0, 1, 0, 1), act(0, 0, 2, 0, 1), act(1, 0, 4, 0, 5)]
        self.assertEqual(last(*house, own(0)), [6, 1, 3])

    def test_as_cheap_ones_that_are_not_as_long(self):
        house = [begins(2, 0, 2), act(0, 0, 1, 0, 1), act(1, 0, 2, 0, 1), act(0, 0, 2, 0, 2)]
        self.assertEqual(last(*house, own(0)), [2, 0, 1])
        house = [begins(2, 0, 2), act(0, 0, 2, 0, 2), act(0, 0, 1, 0, 1), act(1, 0, 2, 0, 1)]
        self.assertEqual(last(*house, own(0)), [2, 0])

    def test_fifteen_acts(self):
        # Counting from 0 to 15: each act carries to the next fact.
        house = [begins(4, 0, 15)] + [act(2 ** k - 1, 2 ** k, 2 ** k, 2 ** k - 1, 1000) for k in range(4)]
        self.assertEqual(last(*house, own(0)), [15000, 0, 1, 0, 2, 0, 1, 0, 3, 0, 1, 0, 2, 0, 1, 0])


class Table(unittest.TestCase):
    def test_what_the_cheapest_plans_cost(self):
        house = [begins(2, 0, 3), act(0, 0, 1, 0, 3), act(0, 0, 2, 0, 4)]
        self.assertEqual(last(*house, own(1)), [7, 7, 4, 3, 0])
        self.assertEqual(last(*house, from_state(2, 3), own(1)), [3, 7, 4, 3, 0])

    def test_states_without_a_plan_have_the_greatest(self):
        house = [begins(2, 0, 1), act(0, 2, 1, 0, 5)]
        self.assertEqual(last(*house, own(1)), [5, 5, 0, 5, 0])
        self.assertEqual(last(*house, from_state(1, 1), own(1)), [0, 5, 0, 5, 0])

    def test_the_greatest_may_be_another_than_the_first_states(self):
        house = [begins(3, 1, 2), act(1, 0, 2, 0, 5), act(5, 0, 2, 0, 3), act(0, 5, 1, 0, 9)]
        self.assertEqual(last(*house, own(1)), [5, 14, 5, 0, 0, 14, 3, 0, 0])

    def test_all_as_wanted_from_the_first(self):
        self.assertEqual(last(begins(2, 1, 1), own(1)), [0, 0, 0, 0, 0])

    def test_none_without_a_plan_from_the_first_state(self):
        self.assertEqual(last(begins(2, 2, 1), act(0, 2, 1, 0, 5), own(1)), [-6])
        self.assertEqual(last(begins(1, 0, 1), own(1)), [-6])


class SetOfStates(unittest.TestCase):
    def test_the_first_state_alone(self):
        self.assertEqual(last(begins(1, 0, 1), own(3)), [0, 1, 0])
        self.assertEqual(last(begins(4, 14, 1), own(3)), [0, 1, 14])

    def test_they_rise(self):
        house = [begins(3, 2, 4), act(2, 0, 1, 2, 1), act(1, 0, 0, 1, 1)]
        self.assertEqual(last(*house, own(3)), [0, 3, 0, 1, 2])

    def test_only_those_that_can_be_come_to(self):
        house = [begins(3, 1, 4), act(1, 0, 2, 0, 1), act(4, 0, 0, 1, 1), act(0, 1, 4, 0, 1)]
        self.assertEqual(last(*house, own(3)), [0, 2, 1, 3])

    def test_several_steps_and_back(self):
        house = [begins(3, 0, 7), act(0, 3, 1, 0, 1), act(1, 0, 2, 1, 1), act(2, 0, 4, 2, 1), act(4, 0, 0, 4, 1)]
        self.assertEqual(last(*house, own(3)), [0, 6, 0, 1, 2, 4, 5, 6])

    def test_none_if_there_is_a_plan(self):
        self.assertEqual(last(begins(1, 0, 1), act(0, 0, 1, 0, 1), own(3)), [-6])
        self.assertEqual(last(begins(1, 0, 0), own(3)), [-6])


if __name__ == "__main__":
    unittest.main()
