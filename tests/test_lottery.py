"""add_to_lottery, evaluate_lottery, clear_lottery, and what becomes of the lottery's entries."""

import unittest

from calls import (HIGHEST, LOWEST, add_to_lottery, after, assign, assignment, check_characterization, choices,
                   clear_lottery, compare, count_assignments, create, describe, evaluate_lottery, is_popular, market,
                   popular_assignment, run, set_assignment, set_preferences, strongest_challenger, unassign,
                   unpopularity_factor, use_first_popular)

WRONG_WEIGHTS = (0, 100, -1, 101, -99, LOWEST, HIGHEST)

# Three applicants who want the same: no assignment is popular, but a lottery is.
THREE = market(2, [0, 1], [0, 1], [0, 1])


def lottery(*entries):
    """The calls that fill the lottery with these pairs of a weight and an assignment."""
    return [call for weight, a in entries for call in (set_assignment(a), add_to_lottery(weight))]


class AddToLottery(unittest.TestCase):
    def test_answers_the_sum_of_all_weights(self):
        answered = after(market(1, [0]), *[add_to_lottery(weight) for weight in (1, 99, 50, 1, 2)])
        self.assertEqual(answered, [[1], [100], [150], [151], [153]])

    def test_weights_out_of_range(self):
        for weight in WRONG_WEIGHTS:
            answered = after(market(1, [0]), add_to_lottery(weight), add_to_lottery(7), add_to_lottery(weight),
                             add_to_lottery(1), clear_lottery())
            self.assertEqual(answered, [[-22], [7], [-22], [8], [2]], weight)

    def test_twelve_entries_and_no_more(self):
        for weight in (1, 99):
            answered = after(market(1, [0]), *[add_to_lottery(weight)] * 14, clear_lottery(), add_to_lottery(weight))
            self.assertEqual(answered, [[weight * size] for size in range(1, 13)] + [[-28], [-28], [12], [weight]])

    def test_weight_out_of_range_comes_ahead_of_full(self):
        for weight in WRONG_WEIGHTS:
            answered = after(market(1, [0]), *[add_to_lottery(3)] * 12, add_to_lottery(weight), add_to_lottery(3))
            self.assertEqual(answered[11:], [[36], [-22], [-28]])

    def test_one_assignment_several_times_is_several_entries(self):
        answered = after(market(1, [0], [0]), *lottery((2, [0, -1]), (3, [-1, 0]), (2, [0, -1])), clear_lottery())
        self.assertEqual(answered[1::2], [[2], [5], [7]])
        self.assertEqual(answered[-1], [3])

    def test_current_assignment_stays(self):
        before = THREE + [set_assignment([1, -1, 0])]
        self.assertEqual(after(before, add_to_lottery(1), assignment(), add_to_lottery(0), assignment()),
                         [[1], [2, 1, -1, 0], [-22], [2, 1, -1, 0]])


class EvaluateLottery(unittest.TestCase):
    def evaluated(self, before, *entries):
        return after(before + lottery(*entries), evaluate_lottery())[0]

    def test_empty(self):
        self.assertEqual(run([create(1, 1), evaluate_lottery()]), [[0], [-6]])
        self.assertEqual(run([create(5, 5), evaluate_lottery()]), [[0], [-6]])
        self.assertEqual(self.evaluated(THREE), [-6])
        self.assertEqual(self.evaluated(THREE + [add_to_lottery(1), clear_lottery()]), [-6])

    def test_single_entry(self):
        for weight in (1, 2, 99):
            self.assertEqual(self.evaluated(market(1, [0]), (weight, [0])), [1, 0, 1, 0])
            self.assertEqual(self.evaluated(market(1, [0]), (weight, [-1])), [0, 1, 1, 0])
            self.assertEqual(self.evaluated(THREE, (weight, [0, 1, -1])), [0, 1, 1, -1, 0, 1])

    def test_only_assignment_there_is(self):
        for n in (1, 5):
            none = [-1] * n
            self.assertEqual(self.evaluated([create(n, 5)], (99, none), (1, none)), [1, 0, 1] + none)

    def test_popular_without_a_popular_entry(self):
        turns = ([0, 1, -1], [1, -1, 0], [-1, 0, 1])
        for weight in (1, 5, 99):
            self.assertEqual(self.evaluated(THREE, *[(weight, a) for a in turns]), [1, 0, 1, 0, 1, -1])

    def test_weights_tip_the_scales(self):
        entries = [(1, [0, 1, -1]), (1, [1, -1, 0]), (1, [-1, 0, 1])]
        # [-1, 0, 1] wins by 1 against [0, 1, -1] and loses by 1 against [1, -1, 0].
        self.assertEqual(self.evaluated(THREE, (2, [0, 1, -1]), *entries[1:]), [0, 1, 4, -1, 0, 1])
        # [0, 1, -1] wins by 1 against [1, -1, 0] and loses by 1 against [-1, 0, 1].
        self.assertEqual(self.evaluated(THREE, entries[0], (99, [1, -1, 0]), entries[2]), [0, 98, 101, 0, 1, -1])

    def test_fraction_is_divided_out(self):
        entries = [(4, [0, 1, -1]), (2, [1, -1, 0]), (2, [-1, 0, 1])]
        self.assertEqual(self.evaluated(THREE, *entries), [0, 1, 4, -1, 0, 1])
        before = market(1, [0])
        self.assertEqual(self.evaluated(before, (2, [-1]), (2, [0])), [0, 1, 2, 0])
        self.assertEqual(self.evaluated(before, (3, [-1]), (1, [0])), [0, 3, 4, 0])
        self.assertEqual(self.evaluated(before, (60, [-1]), (84, [0])), [0, 5, 12, 0])

    def test_whole_numbers(self):
        before = market(5, [0], [1], [2], [3], [4])
        none = [-1] * 5
        self.assertEqual(self.evaluated(before, (99, none)), [0, 5, 1, 0, 1, 2, 3, 4])
        self.assertEqual(self.evaluated(before, (2, none), (2, [0, 1, 2, 3, -1])), [0, 3, 1, 0, 1, 2, 3, 4])
        self.assertEqual(self.evaluated(before, (2, none), (1, [0, 1, -1, -1, -1])), [0, 13, 3, 0, 1, 2, 3, 4])

    def test_first_of_several_with_the_greatest_margin(self):
        # Both [0, 1] and [1, 0] win two votes; the numbers of the houses decide, not the wishes.
        self.assertEqual(self.evaluated(market(2, [1, 0], [1, 0]), (3, [-1, -1])), [0, 2, 1, 0, 1])
        # No house comes behind every house.
        self.assertEqual(self.evaluated(market(1, [0], [0]), (1, [-1, -1])), [0, 1, 1, 0, -1])
        self.assertEqual(self.evaluated(market(1, [0], [0]), (1, [-1, 0])), [1, 0, 1, 0, -1])

    def test_one_assignment_several_times(self):
        before = market(1, [0], [0])
        twice = [(1, [-1, -1]), (2, [0, -1]), (1, [-1, -1])]
        self.assertEqual(self.evaluated(before, *twice), [0, 1, 2, 0, -1])
        self.assertEqual(self.evaluated(before, *twice), self.evaluated(before, (2, [-1, -1]), (2, [0, -1])))

    def test_order_of_the_entries_does_not_matter(self):
        entries = [(5, [0, 1, -1]), (2, [1, -1, 0]), (3, [-1, -1, 1]), (1, [-1, 0, 1])]
        self.assertEqual(self.evaluated(THREE, *entries), self.evaluated(THREE, *entries[::-1]))

    def test_twelve_entries(self):
        before = market(2, *[[0, 1]] * 4)
        places = [(i, j) for i in range(4) for j in range(4) if i != j]
        entries = [[0 if i == first else 1 if i == second else -1 for i in range(4)] for first, second in places]
        calls = [call for a in entries for call in (set_assignment(a), add_to_lottery(1))]
        self.assertEqual(after(before + calls, evaluate_lottery()), [[1, 0, 1, 0, 1, -1, -1]])
        refused = calls + [add_to_lottery(1), evaluate_lottery(), clear_lottery()]
        self.assertEqual(after(before, *refused)[-3:], [[-28], [1, 0, 1, 0, 1, -1, -1], [12]])

    def test_largest_market_again_and_again(self):
        full = [0, 1, 2, 3, 4]
        before = market(5, full, full, full, full, full) + [add_to_lottery(99)] * 12
        answered = after(before, *[evaluate_lottery()] * 42)
        self.assertEqual(answered, [[0, 5, 1, 0, 1, 2, 3, 4]] * 42)

    def test_largest_market_with_a_popular_lottery(self):
        full = [0, 1, 2, 3, 4]
        turns = [full[i:] + full[:i] for i in range(5)]
        self.assertEqual(self.evaluated(market(5, full, full, full, full, full), *[(7, a) for a in turns]),
                         [1, 0, 1, 0, 1, 2, 3, 4])
        self.assertEqual(self.evaluated(market(5, full, full, full, full, full), *[(7, a) for a in turns[:4]]),
                         [0, 3, 4, 0, 1, 2, 3, 4])

    def test_current_assignment_and_lottery_stay(self):
        before = THREE + lottery((2, [0, 1, -1]), (1, [1, -1, 0])) + [unassign(0)]
        answered = after(before, evaluate_lottery(), evaluate_lottery(), assignment(), add_to_lottery(1),
                         clear_lottery())
        self.assertEqual(answered[0], answered[1])
        self.assertEqual(answered[2:], [[1, -1, -1, 0], [4], [3]])


class ClearLottery(unittest.TestCase):
    def test_empty(self):
        self.assertEqual(run([create(1, 1), clear_lottery(), clear_lottery()]), [[0], [0], [0]])

    def test_answers_the_number_of_entries(self):
        for size in range(1, 13):
            answered = after(market(1, [0]), *[add_to_lottery(9)] * size, clear_lottery(), clear_lottery(),
                             evaluate_lottery(), add_to_lottery(4), evaluate_lottery())
            self.assertEqual(answered[size:], [[size], [0], [-6], [4], [0, 1, 1, 0]])

    def test_current_assignment_and_lists_stay(self):
        before = THREE + lottery((2, [0, 1, -1]))
        self.assertEqual(after(before, clear_lottery(), assignment(), describe()),
                         [[1], [2, 0, 1, -1], [3, 2, 2, 0, 1, 2, 0, 1, 2, 0, 1]])


class Entries(unittest.TestCase):
    """The entries stay as they were added, until something empties the lottery."""

    def test_current_assignment_is_changed_behind_them(self):
        before = market(2, [0, 1], [0])
        for a, popular in (([-1, -1], [0, 2, 1, 1, 0]), ([0, -1], [1, 0, 1, 0, -1]), ([1, 0], [1, 0, 1, 0, -1])):
            changes = [set_assignment([-1, 0]), set_assignment([1, -1]), use_first_popular()]
            changes += [unassign(i) for i in range(2) if a[i] != -1]
            changes += [assign(0, 0)] if a[1] != 0 else [assign(0, 1)]
            for change in changes:
                answered = after(before + lottery((3, a)), evaluate_lottery(), change, evaluate_lottery(),
                                 clear_lottery())
                self.assertGreaterEqual(answered[1][0], 0)
                self.assertEqual([answered[0]] + answered[2:], [answered[0], answered[0], [1]])

    def test_later_entries_do_not_change_earlier_ones(self):
        answered = after(market(1, [0]), add_to_lottery(1), assign(0, 0), add_to_lottery(2), unassign(0),
                         add_to_lottery(1), evaluate_lottery())
        self.assertEqual(answered[-1], [0, 1, 2, 0])

    def test_use_first_popular_does_not_tie_the_current_one_to_an_entry(self):
        answered = after(market(1, [0]), use_first_popular(), add_to_lottery(1), unassign(0), evaluate_lottery())
        self.assertEqual(answered[-1], [1, 0, 1, 0])

    def test_set_preferences_empties(self):
        before = market(2, [0, 1], [0]) + lottery((1, [1, 0]), (2, [0, -1]))
        for again in (set_preferences(0, [0, 1]), set_preferences(1, []), set_preferences(1, [0])):
            answered = after(before, again, evaluate_lottery(), clear_lottery(), add_to_lottery(1))
            self.assertEqual(answered[1:], [[-6], [0], [1]])

    def test_create_empties(self):
        before = market(2, [0, 1], [0]) + lottery((1, [1, 0]), (2, [0, -1]))
        for again in (create(2, 2), create(1, 1), create(5, 5)):
            answered = after(before, again, evaluate_lottery(), clear_lottery(), add_to_lottery(1))
            self.assertEqual(answered, [[0], [-6], [0], [1]])

    def test_queries_and_refusals_leave_all_as_it_is(self):
        queries = [assignment(), compare([-1, 0, 1]), is_popular(), strongest_challenger(), unpopularity_factor(),
                   count_assignments(), popular_assignment(0), choices(0), check_characterization(),
                   evaluate_lottery(), describe()]
        refused = [create(0, 3), create(3, 6), set_preferences(3, [0]), set_preferences(-1, []),
                   set_preferences(0, [2]), set_preferences(1, [0, 0]), assign(3, 0), assign(0, 2), assign(0, 1),
                   unassign(3), unassign(1), set_assignment([0]), set_assignment([0, 0, -1]), compare([1, 1, -1]),
                   compare([]), popular_assignment(1), popular_assignment(-1), use_first_popular(), choices(3),
                   choices(-1)] + [add_to_lottery(weight) for weight in WRONG_WEIGHTS]
        before = THREE + lottery((5, [0, 1, -1]), (1, [1, -1, 0]), (1, [-1, 0, -1])) + [set_assignment([0, -1, 1])]
        shown = [assignment(), describe(), evaluate_lottery(), add_to_lottery(9), evaluate_lottery(), clear_lottery()]
        plain = after(before, *shown)
        self.assertEqual(plain[0], [2, 0, -1, 1])
        self.assertEqual(plain[3], [16])
        for call in refused:
            answered = after(before, call, *shown)
            self.assertLess(answered[0][0], 0, call)
            self.assertEqual(answered[1:], plain, call)
        for call in queries:
            self.assertEqual(after(before, call, *shown)[1:], plain, call)

    def test_refused_addition_to_a_full_lottery(self):
        before = THREE + lottery((5, [0, 1, -1])) + [add_to_lottery(2)] * 11 + [set_assignment([0, -1, 1])]
        shown = [assignment(), evaluate_lottery(), clear_lottery()]
        plain = after(before, *shown)
        for weight in (1, 99) + WRONG_WEIGHTS:
            self.assertEqual(after(before, add_to_lottery(weight), *shown)[1:], plain)

    def test_refused_while_empty(self):
        answered = after(THREE + [set_assignment([0, -1, 1])], evaluate_lottery(), assignment(), describe(),
                         clear_lottery())
        self.assertEqual(answered, [[-6], [2, 0, -1, 1], [3, 2, 2, 0, 1, 2, 0, 1, 2, 0, 1], [0]])


if __name__ == "__main__":
    unittest.main()
