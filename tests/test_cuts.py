"""cuts: taken, or what is wrong with them first, or refused."""

import unittest

from tests.asking import act, ask, begins, cuts, from_state, last, own

MOST = 4294967295

# Fact 0 for 2, by it fact 1 for 3, by that fact 2 for 7; or fact 2 at once for 12.
HOUSE = [begins(3, 0, 4), act(0, 0, 1, 0, 2), act(1, 0, 2, 0, 3), act(2, 0, 4, 0, 7), act(0, 0, 4, 0, 12)]


def check(claim, *lists):
    return last(*HOUSE, cuts(claim, *lists))


class Taken(unittest.TestCase):
    def test_with_a_claim_as_much_as_they_are_worth_or_less(self):
        self.assertEqual([check(claim, [7, 2, 3], [3, 1, 3], [2, 0, 3]) for claim in (0, 11, 12)], [[0], [0], [0]])

    def test_acts_and_cuts_in_any_order(self):
        self.assertEqual(check(12, [2, 3, 0], [7, 3, 2], [3, 1, 3]), [0])

    def test_no_cut_at_all(self):
        self.assertEqual([check(claim) for claim in (0, 1, MOST)], [[0], [3, 0], [3, 0]])
        self.assertEqual(ask(cuts(0), cuts(1)), [[0], [3, 0]])

    def test_cuts_that_are_worth_nothing(self):
        self.assertEqual(check(0, [0, 2, 3], [0, 0, 3]), [0])
        self.assertEqual(check(1, [0, 2, 3], [0, 0, 3]), [3, 0])

    def test_an_act_that_costs_just_what_its_cuts_are_worth(self):
        self.assertEqual(check(3, [1, 1, 3], [2, 1, 3]), [0])
        self.assertEqual(check(4, [2, 1, 3], [2, 1, 3]), [2, 1])
        self.assertEqual(check(13, [7, 2, 3], [3, 1, 3], [2, 0, 3], [1, 0, 1, 2, 3]), [2, 0])

    def test_the_same_act_twice_in_one_cut(self):
        self.assertEqual(check(7, [7, 2, 2, 3, 3]), [0])
        self.assertEqual(check(8, [7, 2, 2, 3, 3]), [3, 7])
        self.assertEqual(check(7, [8, 2, 2, 3, 3]), [2, 2])

    def test_ten_cuts_of_twenty_numbers(self):
        self.assertEqual(check(0, *[[0, 3] + [2] * 18] * 10), [0])
        self.assertEqual(check(0, *[[1, 3] + [2] * 18] * 10), [2, 2])
        self.assertEqual(check(0, *[[1, 3] + [2] * 18] * 9, [1] + [2] * 19), [1, 9])

    def test_it_changes_nothing(self):
        self.assertEqual(ask(*HOUSE, cuts(7, [7, 2, 3]), cuts(7, [7, 2]), cuts(7, [9, 2, 3]), cuts(7, [7, 2, 3]),
                             own(2))[5:],
                         [[0], [1, 0], [2, 2], [0], [12, 3, 7, 2, 2, 3, 3, 2, 1, 3, 2, 2, 0, 3]])


class GoneRound(unittest.TestCase):
    def test_by_another_act(self):
        self.assertEqual(check(0, [7, 2]), [1, 0])
        self.assertEqual(check(0, [12, 3]), [1, 0])

    def test_the_first_of_several(self):
        self.assertEqual(check(0, [7, 2, 3], [3, 1], [2, 0]), [1, 1])
        self.assertEqual(check(0, [7, 2], [3, 1, 3], [2, 0]), [1, 0])

    def test_a_cut_without_acts(self):
        self.assertEqual(check(0, [7]), [1, 0])
        self.assertEqual(check(0, [7, 2, 3], [0]), [1, 1])

    def test_a_cut_without_acts_where_nothing_can_be_had(self):
        self.assertEqual(last(begins(1, 0, 1), cuts(MOST, [MOST])), [0])
        self.assertEqual(last(begins(1, 0, 1), cuts(MOST, [MOST], [MOST])), [0])
        self.assertEqual(last(begins(2, 0, 3), act(0, 0, 1, 0, 1), cuts(5, [5])), [0])

    def test_facts_that_bring_each_other_alone(self):
        house = [begins(2, 0, 3), act(1, 0, 2, 0, 1), act(2, 0, 1, 0, 1)]
        self.assertEqual(last(*house, cuts(5, [5])), [0])

    def test_all_as_wanted_from_the_first(self):
        for house in ([begins(2, 1, 1), act(0, 0, 2, 0, 3)], [begins(2, 0, 0), act(0, 0, 2, 0, 3)]):
            self.assertEqual(ask(*house, cuts(0), cuts(1), cuts(0, [0]), cuts(0, [1, 0]), cuts(0, [0, 0]))[2:],
                             [[0], [3, 0], [1, 0], [1, 0], [1, 0]])

    def test_acts_told_in_the_order_in_which_they_are_not_done(self):
        house = [begins(4, 0, 8), act(4, 0, 8, 0, 1), act(2, 0, 4, 0, 1), act(1, 0, 2, 0, 1), act(0, 0, 1, 0, 1)]
        self.assertEqual(last(*house, cuts(0, [0])), [1, 0])
        self.assertEqual(last(*house, cuts(4, [1, 3], [1, 2], [1, 1], [1, 0])), [0])

    def test_all_needed_facts_have_to_be_had(self):
        house = [begins(3, 0, 4), act(3, 0, 4, 0, 5), act(0, 0, 1, 0, 1), act(0, 0, 2, 0, 1)]
        self.assertEqual(last(*house, cuts(7, [5, 0], [1, 1], [1, 2])), [0])

    def test_one_of_two_wanted_facts_is_cut_off(self):
        house = [begins(2, 0, 3), act(0, 0, 1, 0, 3), act(0, 0, 2, 0, 4)]
        self.assertEqual(last(*house, cuts(7, [3, 0], [4, 1])), [0])

    def test_from_another_first_state(self):
        self.assertEqual(ask(*HOUSE, from_state(2, 4), cuts(7, [7, 2, 3]), cuts(0, [2, 0, 3]))[5:],
                         [[0], [0], [1, 0]])

    def test_where_more_is_wrong(self):
        self.assertEqual(check(0, [7, 2, 3], [99, 1]), [1, 1])
        self.assertEqual(check(0, [99, 2, 3], [1, 1]), [1, 1])
        self.assertEqual(check(MOST, [7, 2]), [1, 0])
        self.assertEqual(check(MOST, [99, 2, 3], [99, 1]), [1, 1])


class AsIfNothingWere(unittest.TestCase):
    def test_in_the_way(self):
        house = [begins(2, 2, 1), act(0, 2, 1, 0, 4)]
        self.assertEqual(ask(*house, cuts(4, [4, 0]), cuts(0, [4]))[2:], [[0], [1, 0]])

    def test_in_the_way_of_one_that_needs_it(self):
        house = [begins(2, 2, 1), act(2, 2, 1, 0, 4)]
        self.assertEqual(ask(*house, cuts(4, [4, 0]), cuts(0, [4]))[2:], [[0], [1, 0]])

    def test_taken_away(self):
        house = [begins(2, 0, 3), act(0, 0, 1, 2, 3), act(0, 0, 2, 1, 4)]
        self.assertEqual(ask(*house, cuts(7, [4, 1], [3, 0]), cuts(0, [0]))[3:], [[0], [1, 0]])
        house = [begins(2, 1, 3), act(1, 0, 2, 1, 3)]
        self.assertEqual(ask(*house, cuts(3, [3, 0]), cuts(0, [0]))[2:], [[0], [1, 0]])


class CostsLess(unittest.TestCase):
    def test_than_one_cut_is_worth(self):
        self.assertEqual(check(0, [8, 2, 3]), [2, 2])

    def test_than_several_are_worth_together(self):
        self.assertEqual(check(0, [4, 2, 3], [4, 3, 2]), [2, 2])
        self.assertEqual(check(0, [7, 2, 3], [3, 1, 3], [3, 0, 3]), [2, 0])
        house = [begins(2, 0, 2), act(0, 0, 1, 0, 5), act(1, 0, 2, 0, 5), act(0, 0, 2, 0, 9)]
        self.assertEqual(last(*house, cuts(10, [5, 1, 2], [5, 0, 2])), [2, 2])

    def test_the_lowest_of_several(self):
        self.assertEqual(check(0, [13, 2, 3]), [2, 2])
        self.assertEqual(check(0, [13, 3, 2], [4, 3, 1]), [2, 1])

    def test_the_greatest_numbers(self):
        self.assertEqual(check(MOST, [MOST, 2, 3]), [2, 2])
        self.assertEqual(check(MOST, [MOST, 2, 3], [MOST, 2, 3]), [2, 2])

    def test_where_the_claim_is_too_great_too(self):
        self.assertEqual(check(9, [8, 2, 3]), [2, 2])
        self.assertEqual(check(MOST, [8, 2, 3]), [2, 2])


class WorthLess(unittest.TestCase):
    def test_than_the_claim(self):
        lists = [[7, 2, 3], [3, 1, 3], [2, 0, 3]]
        self.assertEqual([check(claim, *lists) for claim in (13, MOST)], [[3, 12], [3, 12]])
        self.assertEqual(last(begins(1, 0, 1), cuts(MOST, [1], [MOST - 2])), [3, MOST - 1])


class Refused(unittest.TestCase):
    def test_a_cut_without_what_it_is_worth(self):
        self.assertEqual(check(0, []), [-1])
        self.assertEqual(check(12, [7, 2, 3], [3, 1, 3], []), [-1])
        self.assertEqual(check(12, [7, 2, 3], [], [3, 1, 3]), [-1])

    def test_an_act_that_there_is_not(self):
        self.assertEqual([check(0, [7, number, 2, 3]) for number in (3, 4, MOST)], [[0], [-1], [-1]])
        self.assertEqual(check(0, [7, 2, 3, 4]), [-1])
        self.assertEqual(check(0, [7, 2, 3], [3, 1, 3, 4]), [-1])
        self.assertEqual(last(begins(1, 0, 1), cuts(0, [1, 0])), [-1])
        self.assertEqual(last(cuts(0, [0, 0])), [-1])

    def test_the_worth_is_no_act(self):
        self.assertEqual(check(4, [4, 2, 3]), [0])

    def test_ahead_of_all_that_is_wrong(self):
        self.assertEqual(check(MOST, [99, 2], []), [-1])
        self.assertEqual(check(MOST, [99, 2], [1, 4]), [-1])
        self.assertEqual(check(MOST, [99, 2, 3], [1, 4, 2, 3]), [-1])

    def test_all_is_as_it_was(self):
        for wrong in (cuts(0, []), cuts(0, [1, 4]), cuts(0, [1, 2, 3], [1, MOST])):
            self.assertEqual(ask(*HOUSE, wrong, cuts(12, [7, 2, 3], [3, 1, 3], [2, 0, 3]), own(0))[5:],
                             [[-1], [0], [12, 0, 1, 2]])


if __name__ == "__main__":
    unittest.main()
