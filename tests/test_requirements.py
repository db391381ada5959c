"""The document's requirements, over many markets, measured against its words written once more."""

import random
import unittest
from itertools import permutations, product

import reference
from calls import (after, assign, assignment, compare, create, is_popular, market, run, set_assignment,
                   set_preferences, strongest_challenger, unassign, unpopularity_factor)

QUERIES = [assignment(), is_popular(), strongest_challenger(), unpopularity_factor()]


def all_lists(m):
    return [list(order) for size in range(m + 1) for order in permutations(range(m), size)]


def small_markets():
    """Every market of these sizes, as the number of houses and the preference lists."""
    for n, m in ((1, 1), (1, 2), (1, 3), (2, 1), (2, 2), (3, 1), (3, 2), (4, 1), (5, 1)):
        for preferences in product(all_lists(m), repeat=n):
            yield m, list(preferences)


def greater_markets():
    """Some of the greater markets, always the same ones."""
    chance = random.Random(20)
    for turn in range(60):
        n, m = chance.choice(((2, 5), (3, 3), (3, 4), (4, 2), (4, 3), (4, 4), (5, 2), (5, 3)))
        yield m, [chance.choice(all_lists(m)) for applicant in range(n)]


def some_of(found, most):
    """At most so many of them, spread over the whole."""
    step = (len(found) + most - 1) // most
    return found[::step]


class AgainstTheReference(unittest.TestCase):
    def check(self, m, preferences, a):
        answered = after(market(m, *preferences) + [set_assignment(a)], *QUERIES)
        popular = reference.popular(m, preferences, a)
        self.assertEqual(answered[0], [len(a) - a.count(-1)] + a)
        self.assertEqual(answered[1], [1 if popular else 0])
        self.assertEqual(answered[2], reference.challenger(m, preferences, a))
        self.assertEqual(answered[3], reference.factor(m, preferences, a))
        self.assertEqual(popular, reference.characterized(preferences, a))
        self.assertEqual(popular, answered[2][1] == 0)
        self.assertEqual(popular, answered[3][0] == 0 and answered[3][1] <= answered[3][2])

    def test_every_assignment_of_every_small_market(self):
        for m, preferences in small_markets():
            for a in reference.assignments(m, preferences):
                with self.subTest(m=m, preferences=preferences, a=a):
                    self.check(m, preferences, a)

    def test_some_assignments_of_greater_markets(self):
        for m, preferences in greater_markets():
            for a in some_of(reference.assignments(m, preferences), 8):
                with self.subTest(m=m, preferences=preferences, a=a):
                    self.check(m, preferences, a)

    def test_five_applicants_and_five_houses(self):
        preferences = [[0, 1, 2, 3, 4], [4, 3, 2, 1, 0], [0, 2], [4, 1, 3], [2, 0, 1]]
        for a in ([0, 4, 2, 1, -1], [1, 3, 0, 4, 2], [-1, -1, -1, -1, -1]):
            self.check(5, preferences, a)


class Votes(unittest.TestCase):
    def test_every_pair_in_some_small_markets(self):
        for m, preferences in some_of(list(small_markets()), 60):
            every = reference.assignments(m, preferences)
            for a in every:
                answered = after(market(m, *preferences) + [set_assignment(a)], *[compare(b) for b in every])
                awaited = [[reference.votes(preferences, a, b), reference.votes(preferences, b, a)] for b in every]
                self.assertEqual(answered, awaited)

    def test_no_assignment_has_a_greater_margin(self):
        for m, preferences in some_of(list(small_markets()), 60):
            every = reference.assignments(m, preferences)
            for a in every:
                calls = [strongest_challenger()] + [compare(b) for b in every]
                answered = after(market(m, *preferences) + [set_assignment(a)], *calls)
                margins = [other - current for current, other in answered[1:]]
                self.assertEqual(answered[0][1], max(margins))
                self.assertEqual(answered[0][2:], every[margins.index(max(margins))])


class WhatIsAnAssignment(unittest.TestCase):
    def test_every_list_near_the_range(self):
        for preferences in ([[0, 1], [1]], [[1, 0], [0, 1]], [[], [1]], [[2, 0], [1, 2, 0]]):
            m = 3 if [2, 0] in preferences else 2
            every = reference.assignments(m, preferences)
            for a in product(range(-2, m + 1), repeat=2):
                a = list(a)
                answered = after(market(m, *preferences), compare(a), set_assignment(a), assignment())
                if a in every:
                    housed = 2 - a.count(-1)
                    self.assertEqual(answered, [[0, housed], [housed], [housed] + a])
                else:
                    self.assertEqual(answered, [[-22], [-22], [0, -1, -1]])


def any_call(chance):
    """One of the calls, fitting or not."""
    few = range(-2, 5)
    row = [chance.choice(few) for place in range(chance.choice((0, 1, 2, 3, 3, 3, 4)))]
    return chance.choice((
        create(chance.choice(few), chance.choice(few)) if chance.random() < 0.2 else assignment(),
        set_preferences(chance.choice(few), row), set_preferences(chance.choice(few), row),
        assign(chance.choice(few), chance.choice(few)), assign(chance.choice(few), chance.choice(few)),
        unassign(chance.choice(few)), set_assignment(row), set_assignment(row), compare(row), is_popular(),
        strongest_challenger(), unpopularity_factor()))


class Sequences(unittest.TestCase):
    """Calls that fit and calls that don't, mixed, always the same ones."""

    def sequences(self):
        chance = random.Random(7)
        for turn in range(300):
            yield [create(3, 4), set_preferences(0, [0, 1]), set_preferences(1, [1, 0, 3]),
                   set_preferences(2, [2, 1])] + [any_call(chance) for place in range(25)]

    def test_current_assignment_is_always_an_assignment(self):
        for calls in self.sequences():
            watched = [call for each in calls for call in (each, assignment())]
            answered = run(watched)
            preferences = []
            for call, answer, shown in zip(calls, answered[::2], answered[1::2]):
                if call[0] == 0 and answer == [0]:
                    preferences = [[] for applicant in range(call[1])]
                if call[0] == 1 and answer[0] >= 0:
                    preferences[call[1]] = call[3:]
                self.assertIn(shown[1:], reference.assignments(4, preferences))
                self.assertEqual(shown[0], len(preferences) - shown.count(-1))

    def test_what_is_refused_or_asks_changes_nothing(self):
        for calls in self.sequences():
            answered = run(calls)
            kept = [(call, answer) for call, answer in zip(calls, answered) if call[0] < 5 and answer[0] >= 0]
            again = run([call for call, answer in kept] + QUERIES)
            self.assertEqual(again[:len(kept)], [answer for call, answer in kept])
            self.assertEqual(again[len(kept):], after(calls, *QUERIES))

    def test_refusals_are_alone_and_nothing_else_begins_below_0(self):
        for calls in self.sequences():
            for call, answer in zip(calls, run(calls)):
                if answer[0] < 0:
                    self.assertEqual(len(answer), 1)
                    self.assertIn(answer[0], (-2, -6, -17, -22, -33))
                self.assertTrue(all(number >= -1 for number in answer[1:]))


if __name__ == "__main__":
    unittest.main()
