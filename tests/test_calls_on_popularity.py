"""count_assignments, popular_assignment, use_first_popular, choices, check_characterization, describe."""

import unittest

from calls import (HIGHEST, LOWEST, after, assign, assignment, check_characterization, choices, compare,
                   count_assignments, create, describe, is_popular, market, popular_assignment, run, set_assignment,
                   set_preferences, unassign, use_first_popular)

FULL = [0, 1, 2, 3, 4]

# Three applicants who want the same: no assignment is popular.
NONE_POPULAR = market(2, [0, 1], [0, 1], [0, 1])

# The largest market, with two popular assignments: two houses are wanted first, each by several.
TWO_POPULAR = market(5, [0, 2, 1, 3, 4], [0, 3, 1, 2, 4], [0, 4, 1, 2, 3], [1, 2, 0, 3, 4], [1, 3, 0, 2, 4])


class CountAssignments(unittest.TestCase):
    def counted(self, *before):
        return after(list(before), count_assignments())[0]

    def test_only_one_where_all_lists_are_empty(self):
        for n, m in ((1, 1), (1, 5), (5, 1), (5, 5)):
            self.assertEqual(self.counted(create(n, m)), [1, 1])

    def test_ordinary(self):
        self.assertEqual(self.counted(*market(1, [0])), [2, 1])
        self.assertEqual(self.counted(*market(5, FULL)), [6, 1])
        self.assertEqual(self.counted(*market(2, [0], [0, 1])), [5, 2])
        self.assertEqual(self.counted(*market(5, [0], [1], [2], [3], [4])), [32, 1])

    def test_unused_houses_and_applicants_without_a_list(self):
        self.assertEqual(self.counted(*market(5, [3], [], [1, 3], [])), [5, 1])

    def test_several_popular(self):
        self.assertEqual(self.counted(*market(1, [0], [0], [0], [0], [0])), [6, 5])
        self.assertEqual(self.counted(*market(2, [0], [0], [0], [1], [1])), [12, 6])
        self.assertEqual(self.counted(*market(3, [0, 1], [0, 2])), [8, 2])

    def test_none_popular(self):
        self.assertEqual(self.counted(*NONE_POPULAR), [13, 0])

    def test_largest_market(self):
        self.assertEqual(self.counted(*market(5, FULL, FULL, FULL, FULL, FULL)), [1546, 0])
        self.assertEqual(self.counted(*TWO_POPULAR), [1546, 2])

    def test_new_lists_count_anew(self):
        answered = after(market(1, [0], [0]), count_assignments(), set_preferences(1, []), count_assignments(),
                         create(2, 1), count_assignments())
        self.assertEqual(answered, [[3, 2], [0], [2, 1], [0], [1, 1]])

    def test_current_assignment_does_not_count_and_stays(self):
        before = NONE_POPULAR + [set_assignment([1, -1, 0])]
        self.assertEqual(after(before, count_assignments(), assignment()), [[13, 0], [2, 1, -1, 0]])


class PopularAssignment(unittest.TestCase):
    def test_from_the_first_to_the_last(self):
        before = market(1, [0], [0], [0])
        self.assertEqual(after(before, *[popular_assignment(k) for k in range(3)]),
                         [[1, 0, -1, -1], [1, -1, 0, -1], [1, -1, -1, 0]])

    def test_ordered_by_the_numbers_of_the_houses(self):
        # Applicant 0 likes house 2 best, yet house 0 comes first.
        before = market(3, [2, 0], [2, 1])
        self.assertEqual(after(before, popular_assignment(0), popular_assignment(1)), [[2, 0, 2], [2, 2, 1]])

    def test_no_house_comes_after_all_houses(self):
        before = market(5, [4], [], [4])
        self.assertEqual(after(before, popular_assignment(0), popular_assignment(1)), [[1, 4, -1, -1], [1, -1, -1, 4]])

    def test_nobody_has_a_house(self):
        for n in (1, 5):
            self.assertEqual(run([create(n, 5), popular_assignment(0), popular_assignment(1)])[1:],
                             [[0] + [-1] * n, [-2]])

    def test_largest_market(self):
        self.assertEqual(after(TWO_POPULAR, *[popular_assignment(k) for k in (0, 1, 2)]),
                         [[5, 0, 3, 4, 2, 1], [5, 2, 0, 4, 1, 3], [-2]])

    def test_behind_the_last_and_below_0(self):
        for before, count in ((market(1, [0]), 1), (market(1, [0], [0], [0]), 3), (NONE_POPULAR, 0)):
            for k in (count, count + 1, -1, -1 - count, LOWEST, HIGHEST):
                self.assertEqual(after(before, popular_assignment(k)), [[-2]], k)

    def test_they_are_popular_and_the_current_one_stays(self):
        before = TWO_POPULAR + [set_assignment([-1, -1, -1, 0, 1])]
        shown = [2, -1, -1, -1, 0, 1]
        self.assertEqual(after(before, popular_assignment(1), assignment(), is_popular())[1:], [shown, [0]])
        self.assertEqual(after(before, popular_assignment(2), assignment(), is_popular())[1:], [shown, [0]])
        self.assertEqual(after(before, set_assignment([2, 0, 4, 1, 3]), is_popular()), [[5], [1]])

    def test_again_and_again_in_the_largest_market(self):
        calls = TWO_POPULAR + [popular_assignment(0), popular_assignment(1), count_assignments()] * 18
        self.assertEqual(len(calls), 60)
        self.assertEqual(run(calls)[6:], [[5, 0, 3, 4, 2, 1], [5, 2, 0, 4, 1, 3], [1546, 2]] * 18)


class UseFirstPopular(unittest.TestCase):
    def test_current_one_is_replaced(self):
        before = market(3, [2, 0], [2, 1])
        for a in ([-1, -1], [2, 1], [0, 1], [0, 2]):
            answered = after(before, set_assignment(a), use_first_popular(), assignment(), is_popular())
            self.assertEqual(answered[1:], [[2], [2, 0, 2], [1]])

    def test_counts_the_applicants_with_a_house(self):
        self.assertEqual(run([create(1, 1), use_first_popular()]), [[0], [0]])
        self.assertEqual(after(market(1, [0], [0], [0], [0], [0]), use_first_popular(), assignment()),
                         [[1], [1, 0, -1, -1, -1, -1]])
        self.assertEqual(after(TWO_POPULAR, use_first_popular(), assignment()), [[5], [5, 0, 3, 4, 2, 1]])

    def test_none_popular(self):
        self.assertEqual(after(NONE_POPULAR, use_first_popular(), assignment()), [[-33], [0, -1, -1, -1]])
        answered = after(NONE_POPULAR, set_assignment([0, -1, 1]), use_first_popular(), assignment())
        self.assertEqual(answered[1:], [[-33], [2, 0, -1, 1]])

    def test_later_changes_do_not_reach_the_popular_ones(self):
        answered = after(market(1, [0], [0]), use_first_popular(), unassign(0), assign(1, 0), popular_assignment(0),
                         use_first_popular(), assignment())
        self.assertEqual(answered, [[1], [0], [1], [1, 0, -1], [1], [1, 0, -1]])

    def test_preference_lists_stay(self):
        self.assertEqual(after(market(3, [2, 0], [2, 1]), use_first_popular(), describe()),
                         [[2], [2, 3, 2, 2, 0, 2, 2, 1]])


class Choices(unittest.TestCase):
    def chosen(self, m, *preferences):
        return after(market(m, *preferences), *[choices(i) for i in range(len(preferences))])

    def test_several_with_one_first_choice(self):
        self.assertEqual(self.chosen(2, [0, 1], [0, 1], [0, 1]), [[2, 0, 1]] * 3)
        self.assertEqual(self.chosen(5, [4, 3], [4, 2], [4], [4, 0, 1], [4, 1]),
                         [[2, 4, 3], [2, 4, 2], [2, 4, -1], [2, 4, 0], [2, 4, 1]])

    def test_empty_list(self):
        self.assertEqual(self.chosen(1, []), [[2, -1, -1]])
        self.assertEqual(self.chosen(3, [2], [], [1, 0]), [[2, 2, -1], [2, -1, -1], [2, 1, 0]])
        self.assertEqual(run([create(5, 5)] + [choices(i) for i in range(5)])[1:], [[2, -1, -1]] * 5)

    def test_every_house_is_a_first_choice(self):
        self.assertEqual(self.chosen(2, [0, 1], [1, 0]), [[2, 0, -1], [2, 1, -1]])
        self.assertEqual(self.chosen(5, FULL, [1, 2, 3, 4, 0], [2, 3], [3], [4, 0]),
                         [[2, 0, -1], [2, 1, -1], [2, 2, -1], [2, 3, -1], [2, 4, -1]])

    def test_second_choice_further_behind(self):
        self.assertEqual(self.chosen(4, [0, 1, 2, 3], [1], [2, 0, 3]), [[2, 0, 3], [2, 1, -1], [2, 2, 3]])
        self.assertEqual(self.chosen(3, [2, 0, 1], [0, 1]), [[2, 2, 1], [2, 0, 1]])

    def test_second_choice_hangs_on_the_others_first_choices(self):
        before = market(3, [0, 1, 2], [1])
        answered = after(before, choices(0), set_preferences(1, [2]), choices(0), set_preferences(1, []), choices(0))
        self.assertEqual(answered, [[2, 0, 2], [1], [2, 0, 1], [0], [2, 0, 1]])

    def test_assigned_houses_do_not_matter_and_stay(self):
        before = market(2, [0, 1], [0]) + [set_assignment([1, 0])]
        self.assertEqual(after(before, choices(0), choices(1), assignment()), [[2, 0, 1], [2, 0, -1], [2, 1, 0]])

    def test_no_such_applicant(self):
        for n in (1, 5):
            for i in (-1, n, LOWEST, HIGHEST):
                self.assertEqual(run([create(n, 5), choices(i)]), [[0], [-2]])


class CheckCharacterization(unittest.TestCase):
    def check(self, before, a, result):
        answered = after(before, set_assignment(a), check_characterization(), is_popular(), assignment())
        self.assertEqual(answered[1:], [[result], [result], answered[0] + a])

    def test_kept(self):
        before = market(3, [0, 1], [0, 2])
        self.check(before, [0, 2], 1)
        self.check(before, [1, 0], 1)
        self.check(TWO_POPULAR, [2, 0, 4, 1, 3], 1)

    def test_choices_of_none(self):
        for n in (1, 5):
            self.check([create(n, 1)], [-1] * n, 1)
        self.check(market(1, [0], [0]), [-1, 0], 1)
        self.check(market(2, [0, 1], [1, 0], []), [0, 1, -1], 1)

    def test_neither_first_nor_second_choice(self):
        self.check(market(4, [0, 1, 2], [0, 3]), [2, 0], 0)
        self.check(market(2, [0, 1], [1, 0]), [1, 0], 0)

    def test_no_house_where_there_is_a_second_choice(self):
        self.check(market(3, [0, 1], [0, 2]), [0, -1], 0)
        self.check(NONE_POPULAR, [0, 1, -1], 0)

    def test_a_first_choice_is_assigned_to_nobody(self):
        self.check(market(3, [0, 1], [0, 2]), [1, 2], 0)
        self.check(market(1, [0], [0]), [-1, -1], 0)
        self.check(market(1, [0]), [-1], 0)

    def test_largest_market(self):
        self.check(TWO_POPULAR, [0, 2, 4, 1, 3], 0)
        self.check(TWO_POPULAR, [2, 3, 4, 1, 0], 0)


class Describe(unittest.TestCase):
    def test_empty_lists(self):
        self.assertEqual(run([create(1, 1), describe()])[1], [1, 1, 0])
        self.assertEqual(run([create(5, 1), describe()])[1], [5, 1, 0, 0, 0, 0, 0])
        self.assertEqual(run([create(1, 5), describe()])[1], [1, 5, 0])

    def test_lists_in_the_order_of_preference(self):
        self.assertEqual(after(market(4, [3, 0], [], [1]), describe()), [[3, 4, 2, 3, 0, 0, 1, 1]])

    def test_full_lists(self):
        listed = [5, 5, 5] + FULL + [5, 4, 3, 2, 1, 0] + [0, 1, 2] + [5, 2, 0, 4, 1, 3]
        self.assertEqual(after(market(5, FULL, FULL[::-1], [], [2], [2, 0, 4, 1, 3]), describe()), [listed])

    def test_new_lists_and_new_markets(self):
        answered = after(market(2, [0, 1], [1]), set_preferences(0, [1]), describe(), set_preferences(1, []),
                         describe(), create(1, 3), describe())
        self.assertEqual(answered[1::2], [[2, 2, 1, 1, 1, 1], [2, 2, 1, 1, 0], [1, 3, 0]])

    def test_what_is_refused_is_not_shown(self):
        for refused in (create(0, 1), create(1, 6), set_preferences(2, [0]), set_preferences(0, [1, 1]),
                        set_preferences(1, [2]), set_preferences(0, [0, -1])):
            self.assertEqual(after(market(2, [0, 1], [1]), refused, describe())[1], [2, 2, 2, 0, 1, 1, 1])

    def test_houses_assigned_do_not_matter_and_stay(self):
        before = market(2, [0, 1], [1]) + [set_assignment([0, 1])]
        self.assertEqual(after(before, describe(), assignment(), compare([1, -1])),
                         [[2, 2, 2, 0, 1, 1, 1], [2, 0, 1], [2, 0]])


if __name__ == "__main__":
    unittest.main()
