"""clauses: taken, or what is wrong with them first, or refused."""

import unittest

from tests.asking import act, ask, begins, clauses, from_state, last, own

MOST = 4294967295

# Facts 0 and 1 take turns: the states 1 and 2. Both together are wanted.
HOUSE = [begins(2, 1, 3), act(1, 0, 2, 1, 1), act(2, 0, 1, 2, 1)]


def check(*literals):
    return last(*HOUSE, clauses(*literals))


class Taken(unittest.TestCase):
    def test_one_clause(self):
        self.assertEqual(check(1, 3), [0])
        self.assertEqual(check(3, 1), [0])

    def test_several_in_any_order(self):
        self.assertEqual(check(0, 2, 1, 3), [0])
        self.assertEqual(check(1, 3, 2, 0), [0])

    def test_the_same_literal_twice(self):
        self.assertEqual(last(begins(1, 0, 1), clauses(1, 1)), [0])
        self.assertEqual(last(begins(2, 1, 2), clauses(0, 0, 3, 3)), [0])

    def test_the_same_clause_again(self):
        self.assertEqual(check(*[1, 3] * 10), [0])

    def test_one_that_says_just_that_a_fact_is_so_or_is_not(self):
        self.assertEqual(check(0, 1, 1, 3), [0])
        self.assertEqual(check(1, 3, 3, 2), [0])
        self.assertEqual(check(0, 1), [3, 3])

    def test_an_act_that_breaks_a_clause_only_where_not_all_hold(self):
        # Fact 0 comes from fact 1 alone, which is kept out.
        house = [begins(2, 0, 1), act(2, 0, 1, 0, 1)]
        self.assertEqual(last(*house, clauses(1, 1, 3, 3)), [0])
        self.assertEqual(last(*house, clauses(1, 1)), [2, 0, 0, 2])

    def test_an_act_that_may_not_be_done(self):
        self.assertEqual(last(begins(2, 2, 1), act(0, 2, 1, 0, 1), clauses(2, 2, 1, 1)), [0])
        self.assertEqual(last(begins(2, 2, 1), act(0, 2, 1, 0, 1), clauses(1, 1)), [2, 0, 0, 0])

    def test_a_fact_that_is_brought_and_taken_away(self):
        self.assertEqual(last(begins(2, 1, 2), act(0, 0, 1, 1, 1), clauses(0, 0, 3, 3)), [0])

    def test_it_changes_nothing(self):
        self.assertEqual(ask(*HOUSE, clauses(1, 3), clauses(1, 1), clauses(0, 0), clauses(), clauses(1, 3),
                             own(4))[3:],
                         [[0], [1, 0], [2, 0, 0, 1], [3, 3], [0], [0, 1, 1, 3]])


class NotInTheFirstState(unittest.TestCase):
    def test_one_clause(self):
        self.assertEqual(check(1, 1), [1, 0])
        self.assertEqual(check(2, 2), [1, 0])
        self.assertEqual(check(1, 2), [1, 0])

    def test_each_literal(self):
        for so in range(4):
            holds = [last(begins(2, so, 3), clauses(literal, literal)) != [1, 0] for literal in range(4)]
            self.assertEqual(holds, [so & 1 != 0, so & 1 == 0, so & 2 != 0, so & 2 == 0])

    def test_the_first_of_several(self):
        self.assertEqual(check(1, 3, 1, 1, 2, 2), [1, 1])
        self.assertEqual(check(2, 2, 1, 3, 1, 1), [1, 0])

    def test_the_last_of_ten(self):
        self.assertEqual(check(*[1, 3] * 9, 2, 1), [1, 9])

    def test_the_first_state_is_where_the_house_is(self):
        self.assertEqual(ask(*HOUSE, from_state(2, 3), clauses(0, 0), clauses(1, 1), from_state(3, 3),
                             clauses(1, 3))[3:],
                         [[0], [1, 0], [2, 0, 1, 2], [0], [1, 0]])

    def test_where_more_is_wrong(self):
        self.assertEqual(check(0, 0, 1, 1), [1, 1])
        self.assertEqual(check(0, 0, 2, 2), [1, 1])
        self.assertEqual(check(0, 1, 2, 2), [1, 1])


class Broken(unittest.TestCase):
    def test_one_clause(self):
        self.assertEqual(check(0, 0), [2, 0, 0, 1])
        self.assertEqual(check(3, 3), [2, 0, 0, 1])

    def test_the_lowest_clause(self):
        self.assertEqual(check(1, 3, 0, 0), [2, 1, 0, 1])
        self.assertEqual(check(0, 0, 3, 3), [2, 0, 0, 1])

    def test_the_lowest_clause_ahead_of_the_lowest_act(self):
        house = [begins(3, 0, 4), act(0, 0, 2, 0, 1), act(0, 0, 1, 0, 1)]
        self.assertEqual(last(*house, clauses(1, 1, 3, 3)), [2, 0, 1, 0])
        self.assertEqual(last(*house, clauses(3, 3, 1, 1)), [2, 0, 0, 0])

    def test_the_lowest_clause_ahead_of_the_lowest_state(self):
        house = [begins(3, 0, 7), act(4, 0, 1, 0, 1), act(0, 4, 2, 0, 1)]
        self.assertEqual(last(*house, clauses(1, 1, 3, 3)), [2, 0, 0, 4])
        self.assertEqual(last(*house, clauses(3, 3, 1, 1)), [2, 0, 1, 0])

    def test_the_lowest_act_ahead_of_the_lowest_state(self):
        house = [begins(3, 0, 7), act(4, 0, 1, 0, 1), act(2, 0, 1, 0, 1)]
        self.assertEqual(last(*house, clauses(1, 1)), [2, 0, 0, 4])

    def test_the_lowest_state(self):
        house = [begins(3, 0, 7), act(0, 2, 1, 0, 1)]
        self.assertEqual(last(*house, clauses(1, 1)), [2, 0, 0, 0])
        house = [begins(3, 0, 7), act(2, 0, 1, 0, 1)]
        self.assertEqual(last(*house, clauses(1, 1)), [2, 0, 0, 2])

    def test_a_state_that_is_never_come_to_counts_too(self):
        self.assertEqual(last(begins(2, 0, 1), act(2, 0, 1, 0, 1), clauses(1, 1)), [2, 0, 0, 2])

    def test_where_what_is_wanted_is_not_kept_out_either(self):
        self.assertEqual(last(begins(2, 0, 2), act(0, 0, 1, 0, 1), clauses(1, 1)), [2, 0, 0, 0])
        self.assertEqual(last(begins(2, 0, 0), act(0, 0, 1, 0, 1), clauses(1, 1)), [2, 0, 0, 0])


class AsWanted(unittest.TestCase):
    def test_no_clause_at_all(self):
        self.assertEqual(check(), [3, 3])
        self.assertEqual([last(begins(2, 0, wanted), clauses()) for wanted in range(4)],
                         [[3, 0], [3, 1], [3, 2], [3, 3]])
        self.assertEqual(last(clauses()), [3, 0])

    def test_the_lowest_of_several(self):
        self.assertEqual(last(begins(3, 0, 2), clauses(0, 1)), [3, 2])
        self.assertEqual(last(begins(3, 1, 2), clauses(0, 4)), [3, 3])

    def test_one_of_two_wanted_facts_is_kept_out(self):
        self.assertEqual(last(begins(2, 0, 3), clauses(3, 3)), [0])
        self.assertEqual(last(begins(2, 0, 1), clauses(3, 3)), [3, 1])

    def test_all_as_wanted_from_the_first(self):
        self.assertEqual(last(begins(2, 1, 1), clauses(0, 0)), [3, 1])
        self.assertEqual(last(begins(1, 0, 0), clauses(1, 1)), [3, 0])


class Refused(unittest.TestCase):
    def test_a_literal_left_over(self):
        self.assertEqual([check(*([1, 3] * 10)[:count]) for count in range(1, 7)], [[-1], [0], [-1], [0], [-1], [0]])
        self.assertEqual(check(*[1] * 19), [-1])

    def test_a_literal_that_there_is_not(self):
        self.assertEqual([check(1, 3, 1, literal) for literal in (3, 4, 5, MOST)], [[0], [-1], [-1], [-1]])
        self.assertEqual(check(4, 1), [-1])
        self.assertEqual(check(1, 4), [-1])

    def test_as_many_as_there_are(self):
        for facts in (1, 2, 3, 4):
            top = 2 * facts
            self.assertEqual(ask(begins(facts, 0, 2 ** (facts - 1)), clauses(top - 1, top - 1), clauses(top, top - 1),
                                 clauses(top - 1, top)),
                             [[0], [0], [-1], [-1]])
        self.assertEqual(ask(clauses(1, 1), clauses(0, 0), clauses(2, 2)), [[3, 0], [1, 0], [-1]])

    def test_ahead_of_all_that_is_wrong(self):
        self.assertEqual(check(1, 1, 1), [-1])
        self.assertEqual(check(1, 1, 4, 4), [-1])
        self.assertEqual(check(0, 0, 0, 4), [-1])
        self.assertEqual(check(0, 1, 4), [-1])

    def test_all_is_as_it_was(self):
        for wrong in (clauses(1), clauses(1, 4), clauses(MOST, 1), clauses(1, 3, 4)):
            self.assertEqual(ask(*HOUSE, wrong, clauses(1, 3), own(4))[3:], [[-1], [0], [0, 1, 1, 3]])


if __name__ == "__main__":
    unittest.main()
