"""set: taken, or what is wrong with it first, or refused."""

import unittest

from tests.asking import act, ask, begins, from_state, last, own, state_set

MOST = 4294967295

# From fact 1 to fact 0 in its stead, and fact 0 away: from the state 2 to 1 to 0.
HOUSE = [begins(3, 2, 4), act(2, 0, 1, 2, 1), act(1, 0, 0, 1, 1)]


def check(*states):
    return last(*HOUSE, state_set(*states))


class Taken(unittest.TestCase):
    def test_all_states_that_can_be_come_to(self):
        self.assertEqual(check(0, 1, 2), [0])

    def test_in_any_order(self):
        self.assertEqual([check(2, 1, 0), check(1, 2, 0), check(2, 0, 1)], [[0], [0], [0]])

    def test_others_beside_them(self):
        self.assertEqual(check(0, 3, 2, 1), [0])

    def test_the_same_state_twice(self):
        self.assertEqual(check(2, 2, 1, 0, 1, 0), [0])
        self.assertEqual(check(*[0, 1, 2, 2] * 5), [0])

    def test_an_act_that_leads_back_to_where_it_comes_from(self):
        self.assertEqual(last(begins(1, 0, 1), act(0, 0, 0, 1, 1), state_set(0)), [0])

    def test_an_act_that_may_not_be_done(self):
        self.assertEqual(last(begins(2, 2, 1), act(0, 2, 1, 0, 1), state_set(2)), [0])

    def test_a_house_without_acts(self):
        self.assertEqual(ask(begins(2, 0, 1), state_set(0), state_set(2, 0), state_set(0, 1)),
                         [[0], [0], [0], [3, 1]])

    def test_it_changes_nothing(self):
        self.assertEqual(ask(*HOUSE, state_set(0, 1, 2), state_set(0, 1), state_set(2), state_set(0, 1, 2),
                             own(3))[3:],
                         [[0], [1], [2, 2, 0], [0], [0, 3, 0, 1, 2]])


class FirstStateNotInIt(unittest.TestCase):
    def test_an_empty_one(self):
        self.assertEqual(check(), [1])
        self.assertEqual(last(state_set()), [1])

    def test_another_state(self):
        self.assertEqual(check(0), [1])
        self.assertEqual(check(0, 1), [1])

    def test_the_first_state_is_where_the_house_is(self):
        self.assertEqual(ask(*HOUSE, from_state(1, 4), state_set(1, 0), state_set(0), from_state(0, 4), state_set(0),
                             state_set(1))[3:],
                         [[0], [0], [1], [0], [0], [1]])

    def test_where_more_is_wrong(self):
        self.assertEqual(check(1), [1])
        self.assertEqual(check(0, 4), [1])
        self.assertEqual(check(7), [1])


class LeadsOut(unittest.TestCase):
    def test_one_state_and_act(self):
        self.assertEqual(check(2), [2, 2, 0])
        self.assertEqual(check(0, 2), [2, 2, 0])
        self.assertEqual(check(2, 1), [2, 1, 1])

    def test_the_first_state_told_of_several(self):
        self.assertEqual(check(3, 2), [2, 3, 0])
        self.assertEqual(check(2, 3), [2, 2, 0])
        self.assertEqual(check(0, 3, 2, 3), [2, 3, 0])

    def test_the_lowest_act_of_several_in_it(self):
        self.assertEqual(ask(*HOUSE, from_state(3, 4), state_set(3), state_set(3, 2), state_set(3, 1, 0))[4:],
                         [[2, 3, 0], [2, 3, 0], [2, 3, 1]])

    def test_the_first_state_told_ahead_of_the_lowest_act(self):
        house = [begins(2, 0, 2), act(0, 1, 2, 0, 1), act(1, 0, 2, 0, 1)]
        self.assertEqual(last(*house, state_set(1, 0)), [2, 1, 1])
        self.assertEqual(last(*house, state_set(0, 1)), [2, 0, 0])

    def test_where_all_is_as_wanted_in_one_too(self):
        self.assertEqual(check(4, 2), [2, 2, 0])
        self.assertEqual(check(6, 2, 1, 0), [2, 6, 0])


class AsWanted(unittest.TestCase):
    def test_one_state(self):
        self.assertEqual(check(0, 1, 2, 4), [3, 4])
        self.assertEqual(last(begins(1, 0, 1), act(0, 0, 1, 0, 1), state_set(0, 1)), [3, 1])

    def test_the_first_told_of_several(self):
        self.assertEqual(check(2, 5, 1, 4, 0), [3, 5])
        self.assertEqual(check(4, 2, 5, 1, 0), [3, 4])

    def test_all_as_wanted_from_the_first(self):
        self.assertEqual(last(state_set(0)), [3, 0])
        self.assertEqual(last(begins(2, 3, 1), state_set(3)), [3, 3])
        self.assertEqual(last(begins(2, 3, 0), state_set(2, 3)), [3, 2])

    def test_one_of_two_wanted_facts(self):
        self.assertEqual(last(begins(2, 0, 3), state_set(0, 1, 2)), [0])
        self.assertEqual(last(begins(2, 0, 3), state_set(0, 1, 2, 3)), [3, 3])


class Refused(unittest.TestCase):
    def test_a_state_that_there_is_not(self):
        self.assertEqual([check(0, 1, 2, state) for state in (3, 8, 9, MOST)], [[0], [-1], [-1], [-1]])
        self.assertEqual(check(8, 0, 1, 2), [-1])

    def test_as_many_as_there_are(self):
        for facts in (1, 2, 3, 4):
            top = 2 ** facts
            self.assertEqual(ask(begins(facts, 0, 1), state_set(0, top - 2), state_set(0, top)), [[0], [0], [-1]])

    def test_ahead_of_all_that_is_wrong(self):
        self.assertEqual(check(8), [-1])
        self.assertEqual(check(2, 8), [-1])
        self.assertEqual(check(4, 2, 1, 0, 8), [-1])

    def test_all_is_as_it_was(self):
        self.assertEqual(ask(*HOUSE, state_set(2, 8), state_set(2, 1, 0), own(3))[3:], [[-1], [0], [0, 3, 0, 1, 2]])


if __name__ == "__main__":
    unittest.main()
