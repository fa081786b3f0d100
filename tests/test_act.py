"""act: the numbers of the acts, what is refused, and what an act does."""

import unittest

from tests.asking import act, ask, begins, from_state, last, own, plan

MOST = 4294967295


class Numbers(unittest.TestCase):
    def test_they_rise_from_zero(self):
        acts = [act(0, 0, 1, 0, cost) for cost in range(1, 9)]
        self.assertEqual(ask(*acts), [[number] for number in range(8)])

    def test_the_ninth(self):
        acts = [act(0, 0, 1, 0, cost) for cost in range(1, 9)]
        self.assertEqual(ask(*acts, act(0, 0, 1, 0, 1), act(0, 0, 1, 0, 1))[-2:], [[-7], [-7]])

    def test_the_ninth_leaves_all_as_it_was(self):
        acts = [act(0, 0, 1, 0, 9)] * 8
        self.assertEqual(ask(*acts, act(0, 0, 1, 0, 1), from_state(0, 1), own(0), plan(9, 7), plan(9, 8))[-3:],
                         [[9, 0], [0], [1, 0]])

    def test_too_many_is_told_ahead_of_what_is_wrong_with_the_row(self):
        acts = [act(0, 0, 1, 0, 1)] * 8
        self.assertEqual(ask(*acts, act(), act(2, 0, 0, 0, 1), act(0, 0, 0, 0, 0), act(0, 0, 0, 1))[-4:], [[-7]] * 4)

    def test_a_refused_act_takes_no_number(self):
        self.assertEqual(ask(act(0, 0, 1, 0, 1), act(0, 0, 2, 0, 1), act(), act(0, 0, 1, 0, 1)),
                         [[0], [-1], [-1], [1]])

    def test_refused_ones_do_not_count_among_the_eight(self):
        self.assertEqual(ask(*[act()] * 8, act(0, 0, 1, 0, 1))[-1], [0])


class Rows(unittest.TestCase):
    def test_how_many_numbers(self):
        rows = ((), (1,), (0, 0, 0, 1), (0, 0, 0, 0, 1), (0, 0, 0, 0, 1, 1), (1,) * 20)
        self.assertEqual([last(act(*row)) for row in rows], [[-1], [-1], [-1], [0], [-1], [-1]])

    def test_costs(self):
        costs = (0, 1, 2, 999, 1000, 1001, MOST)
        self.assertEqual([last(act(0, 0, 0, 0, cost)) for cost in costs],
                         [[-1], [0], [0], [0], [0], [-1], [-1]])

    def test_a_fact_that_is_not_there_in_each_set(self):
        for count in (1, 2, 3, 4):
            for place in range(4):
                for group, answer in ((2 ** count - 1, [0]), (2 ** count, [-1]), (2 ** count + 1, [-1]), (MOST, [-1])):
                    row = [0, 0, 0, 0, 1]
                    row[place] = group
                    self.assertEqual(last(begins(count, 0, 0), act(*row)), answer)

    def test_a_refusal_leaves_all_as_it_was(self):
        for wrong in (act(), act(0, 0, 1, 1), act(4, 0, 1, 0, 1), act(0, 0, 1, 0, 0), act(0, 0, 1, 0, 1001)):
            self.assertEqual(ask(begins(2, 0, 1), act(0, 0, 1, 0, 7), wrong, own(0), plan(7, 1))[2:],
                             [[-1], [7, 0], [1, 0]])


class WhatAnActDoes(unittest.TestCase):
    def can(self, row, so):
        """Whether an act may be done in a state of two facts, by a plan that wants nothing."""
        return last(begins(2, so, 0), act(*row), plan(1, 0)) == [0]

    def behind(self, row, so):
        """The state behind an act, by which facts can be wanted then."""
        rows = [last(begins(2, so, 1 << fact), act(*row), plan(1, 0)) for fact in range(2)]
        return sum(1 << fact for fact in range(2) if rows[fact] == [0])

    def test_all_that_it_needs_has_to_be_so(self):
        self.assertEqual([self.can((3, 0, 0, 0, 1), so) for so in range(4)], [False, False, False, True])
        self.assertEqual([self.can((2, 0, 0, 0, 1), so) for so in range(4)], [False, False, True, True])

    def test_none_that_must_not_be_may_be_so(self):
        self.assertEqual([self.can((0, 3, 0, 0, 1), so) for so in range(4)], [True, False, False, False])
        self.assertEqual([self.can((0, 1, 0, 0, 1), so) for so in range(4)], [True, False, True, False])

    def test_one_that_needs_what_must_not_be(self):
        self.assertEqual([self.can((1, 1, 0, 0, 1), so) for so in range(4)], [False] * 4)

    def test_what_it_brings_and_takes_away(self):
        self.assertEqual([self.behind((0, 0, 1, 0, 1), so) for so in range(4)], [1, 1, 3, 3])
        self.assertEqual([self.behind((0, 0, 0, 2, 1), so) for so in range(4)], [0, 1, 0, 1])
        self.assertEqual([self.behind((0, 0, 1, 2, 1), so) for so in range(4)], [1, 1, 1, 1])

    def test_one_that_brings_a_fact_and_takes_it_away(self):
        self.assertEqual([self.behind((0, 0, 1, 1, 1), so) for so in range(4)], [1, 1, 3, 3])
        self.assertEqual([self.behind((0, 0, 1, 3, 1), so) for so in range(4)], [1, 1, 1, 1])


if __name__ == "__main__":
    unittest.main()
