"""begins and from: what they set, what they refuse, what they leave."""

import unittest

from tests.asking import act, ask, begins, from_state, last, own, plan

MOST = 4294967295


class AtItsBeginning(unittest.TestCase):
    def test_one_fact_not_so_not_wanted_no_act(self):
        self.assertEqual(ask(own(0), own(1), own(2)), [[0], [0, 0, 0], [0, 0]])
        self.assertEqual(ask(plan(0), plan(0, 0)), [[0], [1, 0]])
        self.assertEqual(ask(from_state(2, 0), from_state(0, 2)), [[-1], [-1]])
        self.assertEqual(last(from_state(0, 1), own(3)), [0, 1, 0])

    def test_its_fact_is_not_so(self):
        self.assertEqual(ask(act(1, 0, 0, 0, 1), plan(1, 0), act(0, 1, 0, 0, 1), plan(1, 1)), [[0], [1, 0], [1], [0]])

    def test_acts_may_be_told_at_once(self):
        self.assertEqual(ask(act(0, 0, 1, 0, 5), from_state(0, 1), own(0)), [[0], [0], [5, 0]])


class Begins(unittest.TestCase):
    def test_how_many_facts(self):
        counts = (0, 1, 2, 3, 4, 5, 32, MOST)
        self.assertEqual([last(begins(count, 0, 0)) for count in counts],
                         [[-1], [0], [0], [0], [0], [-1], [-1], [-1]])

    def test_there_are_as_many_states(self):
        for count in (1, 2, 3, 4):
            self.assertEqual(last(begins(count, 0, 0), own(1)), [0] * (1 + 2 ** count))

    def test_facts_that_are_so_or_wanted(self):
        for count in (1, 2, 3, 4):
            top = 2 ** count
            self.assertEqual(last(begins(count, top - 1, top - 1)), [0])
            self.assertEqual(last(begins(count, top, 0)), [-1])
            self.assertEqual(last(begins(count, 0, top)), [-1])
            self.assertEqual(last(begins(count, MOST, 0)), [-1])
            self.assertEqual(last(begins(count, 0, MOST)), [-1])

    def test_what_is_so_and_what_is_wanted(self):
        self.assertEqual(last(begins(2, 1, 2), own(3)), [0, 1, 1])
        self.assertEqual(last(begins(2, 2, 1), own(3)), [0, 1, 2])
        self.assertEqual(last(begins(2, 2, 2), own(0)), [0])

    def test_it_drops_all_acts(self):
        self.assertEqual(ask(begins(1, 0, 1), act(0, 0, 1, 0, 5), begins(1, 0, 1), own(0), act(0, 0, 1, 0, 6), own(0)),
                         [[0], [0], [0], [-6], [0], [6, 0]])

    def test_it_drops_eight_acts(self):
        eight = [act(0, 0, 1, 0, 1)] * 8
        self.assertEqual(ask(*eight, act(0, 0, 1, 0, 1), begins(1, 0, 0), act(0, 0, 1, 0, 1))[-3:], [[-7], [0], [0]])

    def test_a_refusal_leaves_all_as_it_was(self):
        house = [begins(2, 1, 3), act(1, 0, 2, 0, 7)]
        for wrong in (begins(0, 0, 0), begins(5, 0, 0), begins(1, 2, 0), begins(1, 0, 2), begins(4, 16, 1)):
            self.assertEqual(ask(*house, wrong, own(0), own(1), plan(7, 0))[2:],
                             [[-1], [7, 0], [7, 7, 7, 7, 0], [0]])


class FromState(unittest.TestCase):
    def test_it_sets_what_is_so_and_wanted(self):
        self.assertEqual(ask(begins(2, 0, 0), from_state(1, 2), own(3), from_state(2, 1), own(3)),
                         [[0], [0], [0, 1, 1], [0], [0, 1, 2]])

    def test_it_keeps_the_acts(self):
        self.assertEqual(ask(begins(2, 0, 1), act(0, 0, 1, 0, 5), act(0, 0, 2, 0, 6), from_state(1, 3), own(0),
                             act(0, 0, 0, 0, 1)),
                         [[0], [0], [1], [0], [6, 1], [2]])

    def test_facts_that_are_not_there(self):
        for count in (1, 2, 3, 4):
            top = 2 ** count
            self.assertEqual(ask(begins(count, 0, 0), from_state(top - 1, top - 1), from_state(top, 0),
                                 from_state(0, top), from_state(MOST, 0), from_state(0, MOST)),
                             [[0], [0], [-1], [-1], [-1], [-1]])

    def test_a_refusal_leaves_all_as_it_was(self):
        house = [begins(2, 1, 3), act(1, 0, 2, 0, 7)]
        for wrong in (from_state(4, 0), from_state(0, 4), from_state(5, 5)):
            self.assertEqual(ask(*house, wrong, own(0), own(1), plan(7, 0))[2:],
                             [[-1], [7, 0], [7, 7, 7, 7, 0], [0]])


if __name__ == "__main__":
    unittest.main()
