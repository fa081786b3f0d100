"""table: taken, or what is wrong with it first."""

import unittest

from tests.asking import act, ask, begins, from_state, last, table

MOST = 4294967295

# Fact 0 for 3; fact 1 for 4, if fact 0 is so; fact 0 away for 1.
HOUSE = [begins(2, 0, 2), act(0, 0, 1, 0, 3), act(1, 0, 2, 0, 4), act(1, 0, 0, 1, 1)]


def check(claim, *numbers):
    return last(*HOUSE, table(claim, *numbers))


class Taken(unittest.TestCase):
    def test_what_the_cheapest_plans_cost(self):
        self.assertEqual([check(claim, 7, 4, 0, 0) for claim in (0, 6, 7)], [[0], [0], [0]])

    def test_lower_numbers_with_a_lower_claim(self):
        self.assertEqual(check(5, 5, 3, 0, 0), [0])
        self.assertEqual(check(0, 0, 0, 0, 0), [0])

    def test_a_claim_just_as_great_as_the_first_states_number(self):
        self.assertEqual([check(claim, 6, 4, 0, 0) for claim in (5, 6, 7)], [[0], [0], [4, 6]])

    def test_the_first_state_is_where_the_house_is(self):
        self.assertEqual(ask(*HOUSE, from_state(1, 2), table(4, 7, 4, 0, 0), table(5, 7, 4, 0, 0),
                             from_state(3, 2), table(0, 7, 4, 0, 0), table(1, 7, 4, 0, 0))[4:],
                         [[0], [0], [4, 4], [0], [0], [4, 0]])

    def test_a_house_without_acts(self):
        self.assertEqual(ask(begins(1, 0, 1), table(MOST, MOST, 0), table(MOST, MOST, 1)), [[0], [0], [2, 1]])

    def test_a_house_at_its_beginning(self):
        self.assertEqual(ask(table(0, 0, 0), table(1, 0, 0), table(0, 1, 0), table(0, 0)),
                         [[0], [4, 0], [2, 0], [1]])

    def test_an_act_that_leads_back_to_where_it_comes_from(self):
        self.assertEqual(last(begins(1, 0, 1), act(0, 1, 0, 0, 1), table(MOST, MOST, 0)), [0])
        self.assertEqual(last(begins(2, 1, 2), act(1, 0, 1, 1, 1), table(9, 0, 9, 0, 0)), [0])

    def test_an_act_that_may_not_be_done(self):
        self.assertEqual(last(begins(2, 1, 2), act(0, 1, 2, 0, 3), table(MOST, 3, MOST, 0, 0)), [0])
        self.assertEqual(last(begins(2, 0, 2), act(1, 0, 2, 0, 3), table(MOST, MOST, 3, 0, 0)), [0])

    def test_it_changes_nothing(self):
        self.assertEqual(ask(*HOUSE, table(7, 7, 4, 0, 0), table(7), table(7, 7, 4, 0, 0))[4:], [[0], [1], [0]])


class NotANumberForEachState(unittest.TestCase):
    def test_too_few_too_many_none(self):
        self.assertEqual([check(0, *[0] * count) for count in (0, 1, 3, 4, 5, 20)], [[1], [1], [1], [0], [1], [1]])

    def test_as_many_as_there_are_states(self):
        for facts in (1, 2, 3, 4):
            taken = [last(begins(facts, 0, 0), table(0, *[0] * count)) == [0] for count in range(21)]
            self.assertEqual(taken, [count == 2 ** facts for count in range(21)])

    def test_where_more_is_wrong(self):
        self.assertEqual(check(0, 7, 4, 1), [1])
        self.assertEqual(check(0, 7, 4, 0, 1, 0), [1])
        self.assertEqual(check(0, 9, 5, 0), [1])
        self.assertEqual(check(MOST, 0, 0, 0, 0, 0), [1])
        self.assertEqual(check(MOST), [1])


class NotZeroWhereAllIsAsWanted(unittest.TestCase):
    def test_one_state(self):
        self.assertEqual(check(7, 7, 4, 1, 0), [2, 2])
        self.assertEqual(check(7, 7, 4, 0, MOST), [2, 3])

    def test_the_lowest_of_several(self):
        self.assertEqual(check(7, 7, 4, 1, 9), [2, 2])

    def test_nothing_is_wanted(self):
        self.assertEqual(last(begins(2, 3, 0), table(0, 0, 5, 6, 0)), [2, 1])

    def test_where_more_is_wrong(self):
        self.assertEqual(check(0, 9, 5, 0, 1), [2, 3])
        self.assertEqual(check(MOST, 0, 0, 0, 1), [2, 3])
        self.assertEqual(check(MOST, 9, 5, 0, 1), [2, 3])


class AboveCostAndNumberBehind(unittest.TestCase):
    def test_one_state_and_act(self):
        self.assertEqual(check(7, 8, 4, 0, 0), [3, 0, 0])
        self.assertEqual(check(7, 7, 5, 0, 0), [3, 1, 1])
        self.assertEqual(check(0, 0, 2, 0, 0), [3, 1, 2])

    def test_just_as_great_as_both_together(self):
        self.assertEqual([check(0, number, 2, 0, 0) for number in (4, 5, 6)], [[0], [0], [3, 0, 0]])
        self.assertEqual([check(0, 1, number, 0, 0) for number in (1, 2, 3)], [[0], [0], [3, 1, 2]])

    def test_the_lowest_state_of_several(self):
        self.assertEqual(check(0, 9, 5, 0, 0), [3, 0, 0])
        self.assertEqual(check(0, 0, 5, 0, 0), [3, 1, 1])

    def test_the_lowest_act_of_several_in_it(self):
        self.assertEqual(check(0, 0, 9, 0, 0), [3, 1, 1])
        self.assertEqual(check(0, 4, 9, 0, 0), [3, 1, 1])

    def test_the_lowest_state_ahead_of_the_lowest_act(self):
        house = [begins(3, 0, 4), act(1, 0, 4, 0, 1), act(0, 1, 4, 0, 1)]
        self.assertEqual(last(*house, table(0, 5, 5, 5, 5, 0, 0, 0, 0)), [3, 0, 1])

    def test_a_state_that_is_never_come_to_counts_too(self):
        self.assertEqual(last(begins(2, 1, 1), act(2, 0, 1, 0, 3), table(0, 0, 0, 4, 0)), [3, 2, 0])

    def test_the_greatest_numbers(self):
        self.assertEqual(check(MOST, MOST, MOST, 0, 0), [3, 1, 1])
        house = [begins(2, 0, 2), act(0, 0, 1, 0, 1)]
        self.assertEqual(last(*house, table(MOST, MOST, MOST, 0, 0)), [0])
        self.assertEqual(last(*house, table(MOST, MOST, MOST - 1, 0, 0)), [0])
        self.assertEqual(last(*house, table(MOST, MOST, MOST - 2, 0, 0)), [3, 0, 0])

    def test_where_the_claim_is_too_great_too(self):
        self.assertEqual(check(MOST, 8, 4, 0, 0), [3, 0, 0])
        self.assertEqual(check(8, 7, 5, 0, 0), [3, 1, 1])


class LessThanTheClaim(unittest.TestCase):
    def test_the_first_states_number(self):
        self.assertEqual([check(claim, 7, 4, 0, 0) for claim in (8, MOST)], [[4, 7], [4, 7]])
        self.assertEqual(check(1, 0, 0, 0, 0), [4, 0])

    def test_the_greatest_numbers(self):
        self.assertEqual(last(begins(1, 0, 1), table(MOST, MOST - 1, 0)), [4, MOST - 1])


if __name__ == "__main__":
    unittest.main()
