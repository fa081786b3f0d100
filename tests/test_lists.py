"""The interface: calls told in one list, answers told in one list, nothing changed and nothing kept."""

import unittest

from proofcheck.house import answers
from proofcheck.reading import read_calls
from tests.asking import act, begins, clauses, cuts, from_state, own, pair, plan, state_set, table, told

HOUSE = [begins(2, 0, 2), act(0, 0, 1, 0, 2), act(1, 0, 2, 0, 3), own(0), own(1), own(2), own(3), own(4),
         plan(5, 0, 1), plan(4, 0, 1), plan(5, 1), table(5, 5, 3, 0, 0), table(5), cuts(5, [3, 1], [2, 0]),
         cuts(6, [3, 1], [2, 0]), cuts(0, []), pair([0, 1], [5, 3, 0, 0]), pair([0], [5, 3, 0, 0]),
         from_state(2, 1), state_set(2), state_set(4), clauses(1, 1), clauses(1), act(7), own(9)]


class Untouched(list):
    """A list that fails when it is changed, for a while too."""

    def fail(self, *args, **kwargs):
        raise AssertionError("changed")

    append = extend = insert = pop = remove = clear = reverse = sort = fail
    __setitem__ = __delitem__ = __iadd__ = __imul__ = fail


class Answers(unittest.TestCase):
    def test_each_with_its_count_in_order(self):
        self.assertEqual(answers(told(HOUSE)),
                         [1, 0, 1, 0, 1, 1,
                          3, 5, 0, 1,
                          5, 5, 5, 3, 0, 0,
                          8, 5, 2, 3, 1, 1, 2, 1, 0,
                          1, -6, 1, -6,
                          1, 0, 2, 3, 5, 2, 1, 0,
                          1, 0, 1, 1, 1, 0, 2, 3, 5, 1, -1, 2, 1, 5, 1, 0,
                          1, 0, 3, 2, 2, 0, 1, -1, 4, 2, 0, 0, 0, 1, -1, 1, -1, 1, -1])

    def test_numbers_as_the_interface_tells_them(self):
        self.assertEqual(answers([0, 3, 1, 0, 1, 0, 1, 0, 1, 5, 0, 0, 1, 0, 5, 2, 2, 0, 1, 0, 3, 1, 0, 0,
                                  4, 1, 5, 1, 1, 0, 4, 1, 0, 1, 0]),
                         [1, 0, 1, 0, 1, 0, 2, 5, 0, 1, 0, 1, 2])

    def test_numbers_as_the_interface_tells_them_for_the_proofs(self):
        self.assertEqual(answers([0, 3, 1, 0, 1, 0, 1, 0, 1, 5, 0, 0, 1, 0, 5,
                                  5, 1, 5, 1, 2, 5, 0,
                                  6, 1, 5, 2, 2, 2, 0, 2, 3, 0, 6, 1, 0, 0, 6, 1, 0, 1, 0,
                                  7, 0, 1, 2, 0, 1,
                                  8, 0, 1, 4, 1, 1, 0, 1, 8, 0, 1, 0,
                                  9, 0, 2, 1, 0, 2, 5, 0, 9, 0, 2, 0, 0]),
                         [1, 0, 1, 0, 1, 0, 1, 0, 1, 0, 1, -1, 2, 3, 1, 4, 2, 0, 0, 0, 2, 3, 1, 2, 1, 5, 1, 0])

    def test_one_call(self):
        self.assertEqual(answers(own(0)), [1, 0])
        self.assertEqual(answers(act()), [1, -1])
        self.assertEqual(answers(plan(0)), [1, 0])
        self.assertEqual(answers(table(0)), [1, 1])
        self.assertEqual(answers(cuts(0)), [1, 0])
        self.assertEqual(answers(state_set()), [1, 1])
        self.assertEqual(answers(clauses()), [2, 3, 0])
        self.assertEqual(answers(pair([], [])), [1, 0])

    def test_sixty_calls_the_longest_lists(self):
        calls = [plan(0, *[0] * 20)] * 60
        self.assertEqual(answers(told(calls)), [2, 1, 0] * 60)
        calls = [cuts(0, *[[0] * 20] * 10)] * 60
        self.assertEqual(answers(told(calls)), [1, -1] * 60)
        calls = [pair([0] * 20, [0] * 20)] * 60
        self.assertEqual(answers(told(calls)), [1, 0] * 60)

    def test_the_answer_is_a_list_of_whole_numbers(self):
        answered = answers(told(HOUSE))
        self.assertIs(type(answered), list)
        self.assertEqual({type(number) for number in answered}, {int})


class Reading(unittest.TestCase):
    def test_calls_with_no_list_one_and_several(self):
        calls = read_calls([3, 1, 4, 0, 4, 1, 7, 1, 2, 8, 9, 9, 0, 2, 0, 1, 6, 6, 1, 5, 3, 2, 1, 2, 0, 1, 3, 2, 2, 0, 0, 0])
        self.assertEqual([(call.number, call.numbers, call.lists) for call in calls],
                         [(3, [4], []), (4, [7], [[8, 9]]), (9, [], [[], [6]]), (6, [5], [[1, 2], [], [3]]),
                          (2, [0, 0], [])])


class HandedIn(unittest.TestCase):
    def test_it_is_not_changed(self):
        calls = told(HOUSE)
        answers(calls)
        self.assertEqual(calls, told(HOUSE))

    def test_it_is_not_changed_for_a_while_either(self):
        self.assertEqual(answers(Untouched(told(HOUSE))), answers(told(HOUSE)))


class NothingKept(unittest.TestCase):
    def test_the_same_list_twice(self):
        calls = told(HOUSE)
        self.assertEqual(answers(calls), answers(calls))

    def test_another_list_between(self):
        before = answers(own(1))
        answers(told(HOUSE))
        self.assertEqual(before, [3, 0, 0, 0])
        self.assertEqual(answers(own(1)), before)

    def test_an_answer_that_is_changed(self):
        answers(own(1)).append(7)
        answers(told(HOUSE)).clear()
        self.assertEqual(answers(own(1)), [3, 0, 0, 0])


if __name__ == "__main__":
    unittest.main()
