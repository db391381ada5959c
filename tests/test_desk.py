"""The form of the lists that the desk takes and gives, and the document's example."""

import unittest

from calls import (HIGHEST, LOWEST, add_to_lottery, assign, assignment, check_characterization, choices,
                   clear_lottery, compare, count_assignments, create, describe, evaluate_lottery, is_popular, joined,
                   market, popular_assignment, run, set_assignment, set_preferences, strongest_challenger, unassign,
                   unpopularity_factor, use_first_popular)
from houselot.desk import answers
from houselot.fraction import lowest_terms


class Form(unittest.TestCase):
    def test_each_answer_has_its_length_ahead(self):
        calls = [5, 0, 1, 2, 1, 0, 1, 1, 2, 0, 1, 5, 6, 1, -1, 7, 8, 9, 3, 0, 4, 1, 1, 3, 1]
        listed = [1, -11, 1, 0, 1, 1, 1, 1, 2, 1, 1, 2, 1, 0, 1, 1, 3, 1, 0, 1, 3, 0, 0, 1, 1, 1, 1, 1, 1, -2]
        self.assertEqual(answers(calls), listed)

    def test_each_answer_of_the_calls_from_10_on_has_its_length_ahead(self):
        rows = [
            ([10], [1, -11]), ([0, 2, 2], [1, 0]), ([1, 0, 2, 1, 0], [1, 2]),
            ([10], [2, 3, 1]), ([11, 0], [3, 1, 1, -1]), ([12], [1, 1]), ([13, 0], [3, 2, 1, 0]), ([14], [1, 1]),
            ([15, 99], [1, 99]), ([16], [5, 1, 0, 1, 1, -1]), ([17], [1, 1]), ([18], [6, 2, 2, 2, 1, 0, 0]),
            ([13, 1], [3, 2, -1, -1]), ([11, 1], [1, -2]), ([15, 0], [1, -22]), ([16], [1, -6]),
        ]
        self.assertEqual(answers(joined([call for call, listed in rows])), joined([listed for call, listed in rows]))

    def test_refusal_is_its_number_alone(self):
        self.assertEqual(answers([8]), [1, -11])
        self.assertEqual(answers([0, 6, 1]), [1, -22])
        self.assertEqual(answers([0, 1, 1, 1, 0, 1, 0, 9]), [1, 0, 1, 1, 1, -33])
        self.assertEqual(answers([0, 1, 1, 3, 0, 6, 0]), [1, 0, 1, -6, 1, -22])
        self.assertEqual(answers([0, 1, 1, 11, 1, 13, 1, 15, 0, 16]), [1, 0, 1, -2, 1, -2, 1, -22, 1, -6])
        self.assertEqual(answers([16]), [1, -11])

    def test_rows_of_refused_calls_are_passed_over(self):
        row = [0, 5, 8] * 23
        self.assertEqual(answers([1, 0, 69] + row + [4, 69] + row + [6, 69] + row + [0, 1, 1]),
                         [1, -11, 1, -11, 1, -11, 1, 0])
        self.assertEqual(answers([0, 1, 1, 1, 7, 69] + row + [4, 69] + row + [6, 69] + row + [5]),
                         [1, 0, 1, -2, 1, -22, 1, -22, 2, 0, -1])

    def test_sixty_calls_with_the_longest_rows(self):
        calls = [set_preferences(HIGHEST, [LOWEST] * 70)] * 60
        self.assertEqual(run(calls), [[-11]] * 60)
        calls = [create(5, 5)] + [set_assignment([-1] * 70)] * 59
        self.assertEqual(run(calls), [[0]] + [[-22]] * 59)

    def test_sixty_calls_in_the_greatest_market(self):
        before = market(5, *[[0, 1, 2, 3, 4]] * 5) + [set_assignment([0, 1, 2, 3, 4])]
        calls = before + [strongest_challenger(), unpopularity_factor(), is_popular()] * 17
        self.assertEqual(len(calls), 58)
        self.assertEqual(run(calls)[7:], [[5, 3, 4, 0, 1, 2, 3], [0, 4, 1], [0]] * 17)
        calls = before + [count_assignments(), popular_assignment(0), use_first_popular()] * 17
        self.assertEqual(run(calls)[7:], [[1546, 0], [-2], [-33]] * 17)

    def test_answers_are_plain_whole_numbers_in_a_list(self):
        listed = answers(joined(market(2, [0, 1], [0]) + [
            assign(0, 1), is_popular(), compare([0, -1]), [8], [9], [5], [10], [11, 0], [14], [15, 9], [16], [17],
            [12], [13, 0], [18]]))
        self.assertIs(list, type(listed))
        self.assertEqual({int}, {type(number) for number in listed})


class NothingIsKept(unittest.TestCase):
    def calls(self):
        return joined(market(3, [2, 0], [1, 0, 2], []) + [
            assign(0, 2), set_assignment([0, 1, -1]), compare([2, 0, -1]), is_popular(), strongest_challenger(),
            unpopularity_factor(), unassign(1), set_assignment([3]), set_preferences(0, [1, 1]), assignment(),
            count_assignments(), popular_assignment(0), add_to_lottery(3), use_first_popular(), add_to_lottery(2),
            evaluate_lottery(), choices(1), check_characterization(), describe(), popular_assignment(9),
            add_to_lottery(100)])

    def test_list_handed_in_stays_and_answers_the_same_again(self):
        calls = self.calls()
        first = answers(calls)
        self.assertEqual(calls, self.calls())
        self.assertEqual(answers(calls), first)
        self.assertEqual(calls, self.calls())

    def test_no_market_is_left_from_the_time_before(self):
        answers(self.calls())
        for call in ([5], [16], [17], [18]):
            self.assertEqual(answers(call), [1, -11])
        self.assertEqual(answers([0, 1, 1, 17]), [1, 0, 1, 0])

    def test_lists_given_back_are_not_tied_to_one_another(self):
        calls = self.calls()
        first = answers(calls)
        whole = list(first)
        second = answers(calls)
        second.clear()
        self.assertEqual(first, whole)


class Example(unittest.TestCase):
    def test_whole_table_of_the_document(self):
        rows = [
            (create(3, 2), [0]),
            (set_preferences(0, [0, 1]), [2]),
            (set_preferences(1, [0, 1]), [2]),
            (set_preferences(2, [0, 1]), [2]),
            (choices(0), [2, 0, 1]),
            (count_assignments(), [13, 0]),
            (use_first_popular(), [-33]),
            (set_assignment([0, 1, -1]), [2]),
            (is_popular(), [0]),
            (strongest_challenger(), [3, 1, -1, 0, 1]),
            (unpopularity_factor(), [0, 2, 1]),
            (add_to_lottery(1), [1]),
            (set_assignment([1, -1, 0]), [2]),
            (add_to_lottery(1), [2]),
            (set_assignment([-1, 0, 1]), [2]),
            (add_to_lottery(1), [3]),
            (evaluate_lottery(), [1, 0, 1, 0, 1, -1]),
            (assign(0, 1), [-17]),
            (unassign(0), [-6]),
        ]
        self.assertEqual(run([call for call, answer in rows]), [answer for call, answer in rows])


class LowestTerms(unittest.TestCase):
    def test_what_is_in_common_is_divided_out(self):
        whole = {(0, 1): (0, 1), (0, 4): (0, 1), (1, 1): (1, 1), (2, 2): (1, 1), (4, 2): (2, 1), (2, 4): (1, 2),
                 (3, 2): (3, 2), (2, 3): (2, 3), (12, 18): (2, 3), (99, 1): (99, 1)}
        for given, lowest in whole.items():
            self.assertEqual(lowest_terms(given[0], given[1]), lowest)


if __name__ == "__main__":
    unittest.main()
