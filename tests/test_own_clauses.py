"""own of kind 4: the earliest of the shortest rows of clauses that are taken."""

import unittest

from tests.asking import act, begins, last, own


def clauses(*house):
    return last(*house, own(4))


class NoRow(unittest.TestCase):
    def test_where_there_is_a_plan(self):
        self.assertEqual(clauses(begins(1, 0, 1), act(0, 0, 1, 0, 1)), [-6])

    def test_all_as_wanted_from_the_first(self):
        # No row keeps out what is wanted then, one without clauses neither.
        self.assertEqual(clauses(begins(1, 1, 1)), [-6])
        self.assertEqual(clauses(begins(4, 0, 0)), [-6])

    def test_where_two_are_too_few(self):
        # Each fact leads to the next; only all four together, none of them so, are kept.
        house = [begins(4, 0, 8), act(1, 0, 2, 0, 1), act(2, 0, 4, 0, 1), act(4, 0, 8, 0, 1)]
        self.assertEqual(clauses(*house), [-6])
        self.assertEqual(last(*house, own(3)), [0, 1, 0])


class One(unittest.TestCase):
    def test_the_same_literal_twice(self):
        self.assertEqual(clauses(begins(1, 0, 1)), [0, 1, 1, 1])

    def test_the_earliest(self):
        self.assertEqual(clauses(begins(2, 0, 3)), [0, 1, 1, 1])
        self.assertEqual(clauses(begins(2, 1, 3)), [0, 1, 1, 3])
        self.assertEqual(clauses(begins(2, 1, 2)), [0, 1, 3, 3])

    def test_two_facts_that_are_never_so_together(self):
        house = [begins(2, 1, 3), act(1, 0, 2, 1, 1), act(2, 0, 1, 2, 1)]
        self.assertEqual(clauses(*house), [0, 1, 1, 3])

        house = [begins(3, 1, 5), act(1, 0, 4, 1, 1), act(4, 0, 1, 4, 1)]
        self.assertEqual(clauses(*house), [0, 1, 1, 5])


class Two(unittest.TestCase):
    def test_where_one_is_too_few(self):
        self.assertEqual(clauses(begins(2, 0, 1), act(2, 0, 1, 0, 1)), [0, 2, 0, 3, 1, 1])

    def test_one_fact_that_is_so_only_with_another(self):
        # Fact 1 comes with fact 0, which stays, so act 1 is never done; fact 2 is kept out by that alone.
        house = [begins(3, 0, 6), act(0, 0, 3, 0, 1), act(2, 1, 4, 0, 1)]
        self.assertEqual(clauses(*house), [0, 2, 0, 3, 5, 5])

    def test_one_of_two_facts_is_so(self):
        # Facts 0 and 1 take turns, and fact 2 comes only where neither is so.
        house = [begins(3, 1, 4), act(0, 3, 4, 0, 1), act(1, 0, 2, 1, 1), act(2, 0, 1, 2, 1)]
        self.assertEqual(clauses(*house), [0, 2, 0, 2, 5, 5])

    def test_a_fact_that_brings_another_along(self):
        house = [begins(3, 0, 4), act(1, 2, 4, 0, 1), act(0, 0, 3, 0, 1), act(0, 1, 2, 0, 1)]
        self.assertEqual(clauses(*house), [0, 2, 1, 2, 5, 5])
        house = [begins(3, 0, 2), act(1, 4, 2, 0, 1), act(0, 0, 5, 0, 1), act(0, 1, 4, 0, 1)]
        self.assertEqual(clauses(*house), [0, 2, 1, 4, 3, 3])

    def test_the_earlier_second_clause(self):
        # Fact 0 is so, and fact 1 isn't: that it isn't beside fact 0 is the earlier way to say so.
        self.assertEqual(clauses(begins(2, 1, 2), act(0, 1, 2, 0, 1)), [0, 2, 0, 0, 1, 3])

    def test_the_earlier_first_clause(self):
        # With fact 2 so, facts 0 and 1 bring each other: neither is so, said by the earliest clauses that say it.
        house = [begins(3, 4, 3), act(1, 0, 2, 0, 1), act(2, 0, 1, 0, 1)]
        self.assertEqual(clauses(*house), [0, 2, 0, 3, 1, 1])


if __name__ == "__main__":
    unittest.main()
