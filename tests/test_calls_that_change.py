"""create, set_preferences, assign, unassign, set_assignment."""

import unittest

from calls import (HIGHEST, LOWEST, add_to_lottery, after, assign, assignment, check_characterization, choices,
                   clear_lottery, compare, count_assignments, create, describe, evaluate_lottery, is_popular, market,
                   popular_assignment, run, set_assignment, set_preferences, strongest_challenger, unassign,
                   unpopularity_factor, use_first_popular)

NO_SUCH_APPLICANTS = [-1, -2, 3, LOWEST, HIGHEST]
NO_HOUSES_OF_TWO = [-1, 2, LOWEST, HIGHEST]


class Create(unittest.TestCase):
    def test_new_market_has_empty_lists_and_no_houses_assigned(self):
        for n in range(1, 6):
            for m in range(1, 6):
                calls = [create(n, m), assignment(), assign(n - 1, 0), compare([-1] * n), strongest_challenger()]
                none = [-1] * n
                self.assertEqual(run(calls), [[0], [0] + none, [-22], [0, 0], [n, 0] + none])

    def test_sizes_are_those_asked_for(self):
        for n in (1, 5):
            for m in (1, 5):
                calls = [create(n, m), set_preferences(n - 1, [m - 1]), set_preferences(n, []),
                         set_preferences(0, [m])]
                self.assertEqual(run(calls), [[0], [1], [-2], [-22]])

    def test_sizes_out_of_range(self):
        for wrong in (0, 6, -1, LOWEST, HIGHEST):
            for n, m in ((wrong, 1), (1, wrong), (wrong, 5), (5, wrong), (wrong, wrong)):
                self.assertEqual(run([create(n, m), assignment()]), [[-22], [-11]], (n, m))

    def test_refused_create_keeps_the_market(self):
        before = market(2, [0, 1], [0]) + [assign(0, 1)]
        for wrong in (create(0, 2), create(2, 0), create(6, 1), create(1, 6), create(LOWEST, HIGHEST)):
            answered = after(before, wrong, assignment(), compare([0, -1]), set_preferences(1, [1, 0]),
                             set_preferences(2, []), set_preferences(0, [2]))
            self.assertEqual(answered, [[-22], [1, 1, -1], [0, 1], [2], [-2], [-22]])

    def test_second_create_replaces_everything(self):
        before = market(2, [0, 1], [1, 0]) + [set_assignment([0, 1])]
        answered = after(before, create(2, 2), assignment(), assign(0, 0), assign(1, 1), set_assignment([-1, -1]))
        self.assertEqual(answered, [[0], [0, -1, -1], [-22], [-22], [0]])
        answered = after(before, create(3, 1), assignment(), set_preferences(2, [0]), set_preferences(2, [1]))
        self.assertEqual(answered, [[0], [0, -1, -1, -1], [1], [-22]])

    def test_every_other_call_is_refused_ahead_of_the_first_create(self):
        others = [set_preferences(0, []), set_preferences(9, [7, 7]), set_preferences(0, [0] * 70), assign(0, 0),
                  assign(LOWEST, HIGHEST), unassign(0), unassign(-1), set_assignment([]), set_assignment([-1]),
                  set_assignment([4] * 70), assignment(), compare([]), compare([0, 0]), is_popular(),
                  strongest_challenger(), unpopularity_factor(), count_assignments(), popular_assignment(0),
                  popular_assignment(LOWEST), use_first_popular(), choices(0), choices(HIGHEST),
                  check_characterization(), add_to_lottery(1), add_to_lottery(0), evaluate_lottery(), clear_lottery(),
                  describe()]
        self.assertEqual(run(others), [[-11]] * len(others))
        for other in others:
            self.assertEqual(run([other, create(0, 0), other, create(1, 1), assignment()]),
                             [[-11], [-22], [-11], [0], [0, -1]])


class SetPreferences(unittest.TestCase):
    def test_answers_the_length(self):
        lists = [[], [0], [4], [4, 0], [2, 1, 3], [3, 2, 1, 0], [4, 3, 2, 1, 0]]
        for houses in lists:
            self.assertEqual(after([create(5, 5)], set_preferences(4, houses)), [[len(houses)]])

    def test_order_is_the_preference(self):
        self.assertEqual(after(market(2, [1, 0]), assign(0, 0), compare([1])), [[1], [0, 1]])
        self.assertEqual(after(market(2, [0, 1]), assign(0, 0), compare([1])), [[1], [1, 0]])

    def test_list_is_replaced_and_only_that_applicants(self):
        before = market(3, [0, 1], [0, 1])
        answered = after(before, set_preferences(0, [2]), assign(0, 0), assign(0, 1), assign(0, 2), assign(1, 1))
        self.assertEqual(answered, [[1], [-22], [-22], [1], [2]])

    def test_empty_list_makes_no_house_acceptable(self):
        answered = after(market(2, [0, 1]), set_preferences(0, []), assign(0, 0), assign(0, 1), set_assignment([0]),
                         set_assignment([-1]))
        self.assertEqual(answered, [[0], [-22], [-22], [-22], [0]])

    def test_afterwards_nobody_has_a_house(self):
        before = market(3, [0, 1], [1, 0], [2]) + [set_assignment([0, 1, 2])]
        for again in (set_preferences(0, [0, 1]), set_preferences(1, []), set_preferences(2, [0])):
            self.assertEqual(after(before, again, assignment())[1], [0, -1, -1, -1])

    def test_no_such_applicant(self):
        for i in NO_SUCH_APPLICANTS:
            for houses in ([], [0], [0, 0], [9], [HIGHEST] * 70):
                self.assertEqual(after([create(3, 2)], set_preferences(i, houses)), [[-2]])

    def test_no_preference_list(self):
        wrong = [[house] for house in NO_HOUSES_OF_TWO]
        wrong += [[0, house] for house in NO_HOUSES_OF_TWO]
        wrong += [[0, 0], [1, 1], [0, 1, 0], [1, 0, 0], [0, 1, 2], list(range(70)), [0] * 70]
        for houses in wrong:
            self.assertEqual(after([create(3, 2)], set_preferences(2, houses)), [[-22]], houses)


class Assign(unittest.TestCase):
    def test_counts_the_applicants_with_a_house(self):
        answered = after(market(3, [0], [1], [2]), assign(1, 1), assign(0, 0), assign(2, 2), assignment())
        self.assertEqual(answered, [[1], [2], [3], [3, 0, 1, 2]])

    def test_former_house_becomes_free(self):
        answered = after(market(2, [0, 1], [0]), assign(0, 0), assign(1, 0), assign(0, 1), assign(1, 0), assignment())
        self.assertEqual(answered, [[1], [-17], [1], [2], [2, 1, 0]])

    def test_own_house_once_more(self):
        answered = after(market(2, [0, 1], [1]), assign(0, 0), assign(0, 0), assign(1, 1), assign(0, 0), assignment())
        self.assertEqual(answered, [[1], [1], [2], [2], [2, 0, 1]])

    def test_five_applicants_and_five_houses(self):
        before = market(5, *[[4, 3, 2, 1, 0]] * 5)
        answered = after(before, *[assign(i, i) for i in range(5)], assign(4, 0), assign(0, 4), assignment())
        self.assertEqual(answered, [[1], [2], [3], [4], [5], [-17], [-17], [5, 0, 1, 2, 3, 4]])

    def test_one_applicant_and_one_house(self):
        self.assertEqual(after(market(1, [0]), assign(0, 0), assign(0, 1), assign(1, 0), assignment()),
                         [[1], [-22], [-2], [1, 0]])

    def test_no_such_applicant_comes_first(self):
        before = market(2, [0], [1], []) + [assign(0, 0)]
        for i in NO_SUCH_APPLICANTS:
            for h in [0, 1] + NO_HOUSES_OF_TWO:
                self.assertEqual(after(before, assign(i, h)), [[-2]])

    def test_unacceptable_comes_ahead_of_taken(self):
        before = market(2, [0], [1]) + [assign(0, 0)]
        self.assertEqual(after(before, assign(1, 0)), [[-22]])
        for h in NO_HOUSES_OF_TWO:
            self.assertEqual(after(before, assign(0, h), assign(1, h)), [[-22], [-22]])

    def test_taken_also_if_the_applicant_has_another_house(self):
        before = market(2, [0, 1], [1, 0]) + [set_assignment([0, 1])]
        self.assertEqual(after(before, assign(0, 1), assign(1, 0), assignment()), [[-17], [-17], [2, 0, 1]])


class Unassign(unittest.TestCase):
    def test_answers_the_house_and_frees_it(self):
        before = market(3, [2, 0], [2], [1]) + [set_assignment([2, -1, 1])]
        answered = after(before, unassign(0), assignment(), assign(1, 2), unassign(2), unassign(1), assignment())
        self.assertEqual(answered, [[2], [1, -1, -1, 1], [2], [1], [2], [0, -1, -1, -1]])

    def test_house_0(self):
        self.assertEqual(after(market(1, [0]), assign(0, 0), unassign(0), unassign(0)), [[1], [0], [-6]])

    def test_no_house(self):
        before = market(2, [0], [1], []) + [assign(0, 0)]
        self.assertEqual(after(before, unassign(1), unassign(2), unassign(0), unassign(0)), [[-6], [-6], [0], [-6]])

    def test_no_such_applicant(self):
        for before in (market(3, [0], [1], [2]), market(3, [0], [1], [2]) + [set_assignment([0, 1, 2])]):
            for i in NO_SUCH_APPLICANTS:
                self.assertEqual(after(before, unassign(i)), [[-2]])


class SetAssignment(unittest.TestCase):
    def test_replaces_and_counts(self):
        before = market(3, [0, 1, 2], [2, 1], [1])
        for a in ([0, 2, 1], [1, -1, -1], [-1, 2, 1], [2, 1, -1], [-1, -1, -1]):
            housed = sum(house != -1 for house in a)
            answered = after(before, set_assignment([0, 2, 1]), set_assignment(a), assignment())
            self.assertEqual(answered, [[3], [housed], [housed] + a])

    def test_one_and_five(self):
        self.assertEqual(after(market(5, [4]), set_assignment([4]), assignment()), [[1], [1, 4]])
        answered = after(market(1, [], [], [], [], [0]), set_assignment([-1, -1, -1, -1, 0]), assignment())
        self.assertEqual(answered, [[1], [1, -1, -1, -1, -1, 0]])

    def test_what_is_no_assignment(self):
        before = market(2, [0, 1], [0, 1], [1])
        for a in not_assignments():
            self.assertEqual(after(before, set_assignment(a)), [[-22]], a)

    def test_later_changes_do_not_mix(self):
        answered = after(market(2, [0, 1], [0, 1]), set_assignment([0, 1]), unassign(0), set_assignment([1, 0]),
                         unassign(1), assignment())
        self.assertEqual(answered, [[2], [0], [2], [0], [1, 1, -1]])


def not_assignments():
    """What is no assignment of a market with 2 houses and the lists [0, 1], [0, 1], [1]."""
    wrong_length = [[], [0], [0, 1], [-1, -1], [0, -1, -1, -1], [-1] * 70]
    twice = [[0, 0, -1], [1, 1, -1], [1, -1, 1], [-1, 1, 1]]
    not_acceptable = [[-1, -1, 0], [1, -1, 0]]
    no_house = [[house, -1, -1] for house in (-2, 2, LOWEST, HIGHEST)]
    no_house += [[-1, -1, house] for house in (-2, 2, LOWEST, HIGHEST)]
    return wrong_length + twice + not_acceptable + no_house


class Refusals(unittest.TestCase):
    """A refused call leaves the market and the current assignment as they were."""

    def probes(self):
        """Calls that show every preference list and the current assignment of three applicants and two houses."""
        shown = [assignment(), is_popular(), strongest_challenger(), unpopularity_factor(), describe()]
        tried = ([-1, -1, -1], [0, -1, -1], [1, -1, -1], [-1, 0, -1], [-1, 1, -1], [-1, -1, 0], [-1, -1, 1])
        shown += [compare(a) for a in tried]
        for a in tried:
            shown += [set_assignment(a), compare([0, 1, -1]), compare([1, 0, -1]), compare([-1, 0, 1])]
        return shown

    def check(self, refused, code):
        before = market(2, [0, 1], [0, 1], [1]) + [set_assignment([1, 0, -1])]
        plain = after(before, *self.probes())
        answered = after(before, refused, *self.probes())
        self.assertEqual(answered[0], [code], refused)
        self.assertEqual(answered[1:], plain, refused)

    def test_create(self):
        for n, m in ((0, 2), (3, 0), (6, 2), (3, 6), (LOWEST, 2), (3, HIGHEST)):
            self.check(create(n, m), -22)

    def test_set_preferences(self):
        for i in NO_SUCH_APPLICANTS:
            self.check(set_preferences(i, [1, 0]), -2)
        for houses in ([1, 0, 1], [2], [-1], [1, 1], [LOWEST], [0, HIGHEST], [0] * 70):
            for i in range(3):
                self.check(set_preferences(i, houses), -22)

    def test_assign(self):
        for i in NO_SUCH_APPLICANTS:
            self.check(assign(i, 1), -2)
        for h in NO_HOUSES_OF_TWO:
            self.check(assign(0, h), -22)
        self.check(assign(2, 0), -22)
        self.check(assign(0, 0), -17)
        self.check(assign(2, 1), -17)

    def test_unassign(self):
        for i in NO_SUCH_APPLICANTS:
            self.check(unassign(i), -2)
        self.check(unassign(2), -6)

    def test_set_assignment_and_compare(self):
        for a in not_assignments():
            self.check(set_assignment(a), -22)
            self.check(compare(a), -22)

    def test_unpopularity_factor(self):
        before = market(2, [0, 1], [1, 0]) + [set_assignment([1, 0])]
        answered = after(before, unpopularity_factor(), assignment(), strongest_challenger())
        self.assertEqual(answered, [[-33], [2, 1, 0], [2, 2, 0, 1]])


if __name__ == "__main__":
    unittest.main()
