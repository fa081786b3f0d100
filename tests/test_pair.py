"""pair: a plan and a table that together show a cheapest plan."""

import unittest

from tests.asking import act, ask, begins, from_state, last, own, pair

MOST = 4294967295

# Fact 0 for 3; fact 1 for 4, if fact 0 is so; fact 0 away for 1; fact 1 at once for 7.
HOUSE = [begins(2, 0, 2), act(0, 0, 1, 0, 3), act(1, 0, 2, 0, 4), act(1, 0, 0, 1, 1), act(0, 0, 2, 0, 7)]

TABLE = [7, 4, 0, 0]


def check(acts, numbers):
    return last(*HOUSE, pair(acts, numbers))


class BothTaken(unittest.TestCase):
    def test_the_first_of_the_cheapest(self):
        self.assertEqual(check([0, 1], TABLE), [1, 7])

    def test_another_of_the_cheapest(self):
        self.assertEqual(check([3], TABLE), [1, 7])

    def test_a_table_with_another_number_where_one_never_comes(self):
        self.assertEqual(last(begins(2, 1, 2), act(1, 0, 2, 0, 4), pair([0], [MOST, 4, 0, 0])), [1, 4])

    def test_an_empty_plan_where_all_is_as_wanted_from_the_first(self):
        self.assertEqual(ask(*HOUSE, from_state(2, 2), pair([], TABLE), pair([], [0, 0, 0, 0]))[5:],
                         [[0], [1, 0], [1, 0]])
        self.assertEqual(last(pair([], [0, 0])), [1, 0])

    def test_fifteen_acts(self):
        # Counting from 0 to 15: each act carries to the next fact.
        house = [begins(4, 0, 15)] + [act(2 ** k - 1, 2 ** k, 2 ** k, 2 ** k - 1, 1000) for k in range(4)]
        acts = [0, 1, 0, 2, 0, 1, 0, 3, 0, 1, 0, 2, 0, 1, 0]
        numbers = [1000 * (15 - state) for state in range(16)]
        self.assertEqual(last(*house, pair(acts, numbers)), [1, 15000])

    def test_it_changes_nothing(self):
        self.assertEqual(ask(*HOUSE, pair([0, 1], TABLE), pair([1], TABLE), pair([0, 1], TABLE), own(0))[5:],
                         [[1, 7], [0], [1, 7], [7, 0, 1]])


class OneAlone(unittest.TestCase):
    def test_the_plan_with_a_table_that_has_each_fault(self):
        for numbers in ([], [7, 4, 0], [7, 4, 0, 0, 0], [7, 4, 0, 1], [8, 4, 0, 0], [7, 5, 0, 0]):
            self.assertEqual(check([0, 1], numbers), [0])

    def test_the_plan_with_a_table_that_would_be_taken_with_a_lower_claim(self):
        self.assertEqual(check([0, 1], [6, 4, 0, 0]), [0])
        self.assertEqual(check([0, 1], [0, 0, 0, 0]), [0])

    def test_a_plan_that_costs_more_than_another(self):
        self.assertEqual(check([0, 2, 0, 1], TABLE), [0])
        self.assertEqual(check([0, 1, 0], TABLE), [0])

    def test_the_table_with_a_plan_that_has_each_fault(self):
        for acts in ([1], [0, 2, 1], [0, 1, 4], [0], [0, 2], []):
            self.assertEqual(check(acts, TABLE), [0])

    def test_an_empty_plan_where_not_all_is_as_wanted(self):
        self.assertEqual(check([], [0, 0, 0, 0]), [0])


class Neither(unittest.TestCase):
    def test_both_with_faults(self):
        self.assertEqual(check([1], []), [0])
        self.assertEqual(check([0], [9, 9, 9, 9]), [0])
        self.assertEqual(check([], [7, 4, 0]), [0])


class AnActThatThereIsNot(unittest.TestCase):
    def test_in_each_place(self):
        for acts in ([4], [4, 0, 1], [0, 4, 1], [0, 1, 4], [0, 1, MOST], [3, MOST]):
            self.assertEqual(check(acts, TABLE), [0])
            self.assertEqual(check(acts, [0, 0, 0, 0]), [0])

    def test_in_a_house_without_acts(self):
        self.assertEqual(ask(pair([0], [0, 0]), pair([MOST], [0, 0]), pair([], [0, 0])), [[0], [0], [1, 0]])


if __name__ == "__main__":
    unittest.main()
