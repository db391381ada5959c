"""assignment, compare, is_popular, strongest_challenger, unpopularity_factor."""

import unittest

from calls import (HIGHEST, LOWEST, after, assign, assignment, compare, create, is_popular, market, run,
                   set_assignment, strongest_challenger, unpopularity_factor)


class Assignment(unittest.TestCase):
    def test_count_then_assignment(self):
        before = market(3, [2], [], [0, 1])
        self.assertEqual(after(before, assignment()), [[0, -1, -1, -1]])
        self.assertEqual(after(before, assign(2, 0), assignment()), [[1], [1, -1, -1, 0]])
        self.assertEqual(after(before, assign(2, 1), assign(0, 2), assignment()), [[1], [2], [2, 2, -1, 1]])

    def test_one_and_five_applicants(self):
        self.assertEqual(run([create(1, 1), assignment()]), [[0], [0, -1]])
        self.assertEqual(run([create(5, 5), assignment()]), [[0], [0, -1, -1, -1, -1, -1]])


class Compare(unittest.TestCase):
    def compared(self, before, a, b):
        return after(before, set_assignment(a), compare(b))[1]

    def test_votes_for_the_current_one_come_first(self):
        before = market(3, [0, 1, 2], [0, 1, 2], [2])
        self.assertEqual(self.compared(before, [0, 1, 2], [1, 0, -1]), [2, 1])
        self.assertEqual(self.compared(before, [1, 0, -1], [0, 1, 2]), [1, 2])

    def test_same_house_or_none_in_both_does_not_vote(self):
        before = market(3, [0, 1], [2], [1], [2, 0])
        self.assertEqual(self.compared(before, [0, -1, 1, 2], [0, -1, 1, 2]), [0, 0])
        self.assertEqual(self.compared(before, [0, -1, 1, 2], [0, -1, -1, 2]), [1, 0])
        self.assertEqual(self.compared(before, [-1, -1, 1, 2], [0, -1, 1, -1]), [1, 1])

    def test_no_house_is_worse_than_the_last_of_the_list(self):
        before = market(2, [1, 0])
        self.assertEqual(self.compared(before, [0], [-1]), [1, 0])
        self.assertEqual(self.compared(before, [-1], [0]), [0, 1])
        self.assertEqual(self.compared(before, [0], [1]), [0, 1])

    def test_empty_lists(self):
        self.assertEqual(self.compared([create(5, 1)], [-1] * 5, [-1] * 5), [0, 0])

    def test_five_applicants(self):
        before = market(5, *[[0, 1, 2, 3, 4]] * 5)
        self.assertEqual(self.compared(before, [0, 1, 2, 3, 4], [4, 0, 1, 2, 3]), [1, 4])
        self.assertEqual(self.compared(before, [0, 1, 2, 3, 4], [-1] * 5), [5, 0])

    def test_current_assignment_stays(self):
        answered = after(market(2, [0, 1]), assign(0, 1), compare([0]), assignment(), compare([-1]), assignment())
        self.assertEqual(answered, [[1], [0, 1], [1, 1], [1, 0], [1, 1]])

    def test_what_is_no_assignment(self):
        before = market(2, [0, 1], [1])
        wrong = [[], [0], [0, 1, -1], [-1] * 70, [1, 1], [0, 0], [-1, 0], [-2, 1], [2, 1], [LOWEST, -1], [-1, HIGHEST]]
        for a in wrong:
            self.assertEqual(after(before, compare(a)), [[-22]], a)


class Popularity(unittest.TestCase):
    """The three calls that measure the current assignment against all others."""

    def measured(self, before, a):
        return after(before, set_assignment(a), is_popular(), strongest_challenger(), unpopularity_factor())[1:]

    def test_only_assignment_there_is(self):
        for n in (1, 5):
            none = [-1] * n
            self.assertEqual(self.measured([create(n, 5)], none), [[1], [n, 0] + none, [0, 0, 1]])

    def test_everybody_has_the_first_choice(self):
        before = market(5, [0], [1], [2], [3], [4])
        self.assertEqual(self.measured(before, [0, 1, 2, 3, 4]), [[1], [5, 0, 0, 1, 2, 3, 4], [0, 0, 1]])

    def test_house_left_over(self):
        self.assertEqual(self.measured(market(1, [0]), [-1]), [[0], [1, 1, 0], [-33]])
        before = market(5, *[[0, 1, 2, 3, 4]] * 5)
        self.assertEqual(self.measured(before, [-1] * 5), [[0], [5, 5, 0, 1, 2, 3, 4], [-33]])

    def test_one_house_for_five(self):
        before = market(1, [0], [0], [0], [0], [0])
        first = [5, 0, 0, -1, -1, -1, -1]
        self.assertEqual(self.measured(before, [-1, -1, -1, -1, 0]), [[1], first, [0, 1, 1]])
        self.assertEqual(self.measured(before, [0, -1, -1, -1, -1]), [[1], first, [0, 1, 1]])

    def test_first_of_several_with_the_greatest_margin(self):
        # Both [0, 1] and [1, 0] win two votes; the numbers of the houses decide, not the wishes.
        self.assertEqual(self.measured(market(2, [1, 0], [1, 0]), [-1, -1])[1], [2, 2, 0, 1])
        # Both [0, -1] and [-1, 0] win one; no house comes behind every house.
        self.assertEqual(self.measured(market(1, [0], [0]), [-1, -1])[1], [2, 1, 0, -1])

    def test_margin_of_0_with_another_assignment_ahead(self):
        before = market(1, [0], [0])
        self.assertEqual(self.measured(before, [-1, 0]), [[1], [2, 0, 0, -1], [0, 1, 1]])

    def test_factor_above_1(self):
        before = market(2, [0, 1], [0, 1], [0, 1])
        self.assertEqual(self.measured(before, [0, 1, -1]), [[0], [3, 1, -1, 0, 1], [0, 2, 1]])
        before = market(4, *[[0, 1, 2, 3]] * 5)
        self.assertEqual(self.measured(before, [0, 1, 2, 3, -1])[2], [0, 4, 1])

    def test_factor_of_1_from_two_votes_to_two(self):
        # The first that wins votes is [0, -1, 1, -1], with two votes against two.
        before = market(2, [0], [0], [1], [1])
        self.assertEqual(self.measured(before, [-1, 0, -1, 1]), [[1], [4, 0, 0, -1, 1, -1], [0, 1, 1]])

    def test_factor_that_does_not_exist_in_spite_of_a_ratio(self):
        # [0, -1, 1] wins two votes to one; [-1, 0, 1] wins one to none.
        before = market(2, [0], [0], [1])
        self.assertEqual(self.measured(before, [-1, 0, -1]), [[0], [3, 1, 0, -1, 1], [-33]])

    def test_current_assignment_stays(self):
        before = market(2, [0, 1], [0, 1], [0, 1]) + [set_assignment([0, 1, -1])]
        for ask in (is_popular(), strongest_challenger(), unpopularity_factor(), assignment()):
            self.assertEqual(after(before, ask, assignment(), compare([-1, 0, 1]))[1:], [[2, 0, 1, -1], [1, 2]])


if __name__ == "__main__":
    unittest.main()
