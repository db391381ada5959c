"""Calls of all kinds, fitting or not, mixed, always the same ones, measured against the document's words once more."""

import random
import unittest

from calls import (HIGHEST, LOWEST, add_to_lottery, after, assign, assignment, check_characterization, choices,
                   clear_lottery, compare, count_assignments, create, describe, evaluate_lottery, is_popular,
                   popular_assignment, run, set_assignment, set_preferences, strongest_challenger, unassign,
                   unpopularity_factor, use_first_popular)
from model import modelled

CHANGES = (0, 1, 2, 3, 4, 12, 15, 17)
QUERIES = [assignment(), is_popular(), strongest_challenger(), unpopularity_factor(), count_assignments(),
           popular_assignment(0), choices(0), check_characterization(), evaluate_lottery(), describe()]


def any_call(chance):
    """One of the calls, fitting or not."""
    number = chance.choice((-2, -1, 0, 0, 1, 1, 2, 2, 3, 4, LOWEST, HIGHEST))
    other = chance.choice((-1, 0, 0, 1, 1, 2, 2, 3, 4))
    row = [chance.choice((-2, -1, -1, 0, 1, 2, 3, 4)) for place in range(chance.choice((0, 1, 2, 3, 3, 3, 4)))]
    houses = chance.sample(range(4), chance.randint(0, 4))
    rare = [create(number, other), create(chance.randint(1, 3), chance.randint(1, 4)), clear_lottery(),
            set_preferences(number, row), set_preferences(other, houses)]
    common = [assign(other, chance.randint(0, 3)), assign(number, other), unassign(other), set_assignment(row),
              compare(row), use_first_popular(), add_to_lottery(chance.choice((0, 1, 2, 3, 50, 99, 100))),
              popular_assignment(number), choices(number)]
    return chance.choice(rare if chance.random() < 0.1 else common + QUERIES)


def sequences():
    chance = random.Random(7)
    for turn in range(400):
        begun = [create(3, 4)] + [set_preferences(i, chance.sample(range(4), chance.randint(0, 4))) for i in range(3)]
        yield begun[chance.choice((0, 0, 0, 1)):] + [any_call(chance) for place in range(50)]


def full_lotteries():
    """Calls that fill the lottery, and ask for more."""
    chance = random.Random(9)
    for turn in range(60):
        begun = [create(3, 3)] + [set_preferences(i, chance.sample(range(3), chance.randint(1, 3))) for i in range(3)]
        calls = []
        for place in range(18):
            calls += [chance.choice((assign(chance.randint(0, 2), chance.randint(0, 2)), unassign(chance.randint(0, 2)),
                                     use_first_popular())), add_to_lottery(chance.choice((1, 5, 99, 100)))]
        yield begun + calls + [evaluate_lottery(), clear_lottery(), evaluate_lottery()]


class Sequences(unittest.TestCase):
    def test_answers_are_those_of_the_document(self):
        for calls in sequences():
            self.assertEqual(run(calls), modelled(calls), calls)

    def test_answers_with_a_full_lottery(self):
        refused = 0
        for calls in full_lotteries():
            answered = run(calls)
            refused += answered.count([-28])
            self.assertEqual(answered, modelled(calls), calls)
        self.assertGreater(refused, 60)

    def test_what_is_refused_or_asks_changes_nothing(self):
        for calls in sequences():
            calls = calls[:40]
            answered = run(calls)
            kept = [(call, answer) for call, answer in zip(calls, answered) if call[0] in CHANGES and answer[0] >= 0]
            again = run([call for call, answer in kept] + QUERIES)
            self.assertEqual(again[:len(kept)], [answer for call, answer in kept])
            self.assertEqual(again[len(kept):], after(calls, *QUERIES))

    def test_refusals_are_alone_and_nothing_else_begins_below_0(self):
        met = set()
        for calls in sequences():
            for call, answer in zip(calls, run(calls)):
                if answer[0] < 0:
                    self.assertEqual(len(answer), 1)
                    met.add(answer[0])
                self.assertTrue(all(number >= -1 for number in answer[1:]))
        self.assertEqual(met, {-2, -6, -11, -17, -22, -33})


if __name__ == "__main__":
    unittest.main()
