"""plan: taken, or what is wrong with it first."""

import unittest

from tests.asking import act, ask, begins, from_state, last, plan

MOST = 4294967295

# Fact 0 for 3; fact 1 for 4, if fact 0 is so; fact 0 away for 1; fact 2 for 1000, if fact 1 isn't so.
HOUSE = [begins(3, 0, 2), act(0, 0, 1, 0, 3), act(1, 0, 2, 0, 4), act(1, 0, 0, 1, 1), act(0, 2, 4, 0, 1000)]


def check(claim, *acts):
    return last(*HOUSE, plan(claim, *acts))


class Taken(unittest.TestCase):
    def test_a_claim_as_much_as_the_cost_or_more(self):
        self.assertEqual([check(claim, 0, 1) for claim in (7, 8, MOST)], [[0], [0], [0]])

    def test_it_need_not_be_a_cheapest_one(self):
        self.assertEqual(check(11, 0, 2, 0, 1), [0])

    def test_what_is_wanted_may_be_so_early(self):
        self.assertEqual(check(8, 0, 1, 2), [0])

    def test_an_empty_one_where_all_is_as_wanted(self):
        self.assertEqual(ask(*HOUSE, from_state(2, 2), plan(0), from_state(0, 0), plan(0), plan(MOST))[5:],
                         [[0], [0], [0], [0], [0]])

    def test_twenty_acts(self):
        acts = [3] * 18 + [0, 1]
        self.assertEqual(check(18007, *acts), [0])
        self.assertEqual(check(18006, *acts), [3, 18007])

    def test_it_changes_nothing(self):
        self.assertEqual(ask(*HOUSE, plan(7, 0, 1), plan(7, 1), plan(7, 0, 1))[5:], [[0], [1, 0], [0]])


class CannotBeDone(unittest.TestCase):
    def test_where_it_needs_what_is_not_so(self):
        self.assertEqual(check(MOST, 1), [1, 0])
        self.assertEqual(check(MOST, 0, 2, 1, 0, 1), [1, 2])

    def test_where_something_is_in_the_way(self):
        self.assertEqual(check(MOST, 0, 1, 3), [1, 2])

    def test_the_first_of_several(self):
        self.assertEqual(check(MOST, 0, 2, 2, 1, 9), [1, 2])

    def test_an_act_that_there_is_not(self):
        self.assertEqual(check(MOST, 4), [1, 0])
        self.assertEqual(check(MOST, 0, 1, 4), [1, 2])
        self.assertEqual(check(MOST, 0, 1, MOST), [1, 2])
        self.assertEqual(last(plan(0, 0)), [1, 0])

    def test_the_last_of_twenty(self):
        self.assertEqual(check(MOST, *[0] * 19, 4), [1, 19])

    def test_where_what_is_wanted_is_not_so_and_it_costs_too_much(self):
        self.assertEqual(check(0, 0, 4), [1, 1])
        self.assertEqual(check(2, 0, 2, 1), [1, 2])

    def test_where_it_costs_too_much(self):
        self.assertEqual(check(0, 0, 1, 4), [1, 2])


class NotAsWanted(unittest.TestCase):
    def test_behind_all(self):
        self.assertEqual(check(MOST, 0), [2])
        self.assertEqual(check(MOST, 0, 2), [2])

    def test_an_empty_one(self):
        self.assertEqual(check(MOST), [2])
        self.assertEqual(check(0), [2])

    def test_one_of_two_wanted_facts(self):
        self.assertEqual(last(*HOUSE, from_state(0, 6), plan(MOST, 0, 1)), [2])
        self.assertEqual(last(*HOUSE, from_state(0, 6), plan(MOST, 3, 0, 1)), [0])

    def test_what_was_so_on_the_way_and_was_taken_away(self):
        self.assertEqual(last(*HOUSE, from_state(0, 3), plan(MOST, 0, 1, 2)), [2])

    def test_where_it_costs_too_much_too(self):
        self.assertEqual(check(0, 0), [2])


class CostsMore(unittest.TestCase):
    def test_than_the_claim(self):
        self.assertEqual([check(claim, 0, 1) for claim in (0, 6)], [[3, 7], [3, 7]])

    def test_an_act_done_again_costs_again(self):
        self.assertEqual(check(9, 0, 0, 1), [3, 10])


if __name__ == "__main__":
    unittest.main()
