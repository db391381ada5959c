"""The document's requirements, over many markets, measured against its words written once more."""

import random
import unittest
from itertools import combinations, permutations, product

import reference
from calls import (add_to_lottery, after, assignment, check_characterization, choices, compare, count_assignments,
                   describe, evaluate_lottery, is_popular, market, popular_assignment, set_assignment,
                   strongest_challenger, unpopularity_factor, use_first_popular)

QUERIES = [assignment(), is_popular(), strongest_challenger(), unpopularity_factor(), check_characterization(),
           describe()]


def all_lists(m):
    return [list(order) for size in range(m + 1) for order in permutations(range(m), size)]


def small_markets():
    """Every market of these sizes, as the number of houses and the preference lists."""
    for n, m in ((1, 1), (1, 2), (1, 3), (2, 1), (2, 2), (3, 1), (3, 2), (4, 1), (5, 1)):
        for preferences in product(all_lists(m), repeat=n):
            yield m, list(preferences)


def greater_markets():
    """Some of the greater markets, always the same ones."""
    chance = random.Random(20)
    for turn in range(60):
        n, m = chance.choice(((2, 5), (3, 3), (3, 4), (4, 2), (4, 3), (4, 4), (5, 2), (5, 3)))
        yield m, [chance.choice(all_lists(m)) for applicant in range(n)]


def some_of(found, most):
    """At most so many of them, spread over the whole."""
    step = (len(found) + most - 1) // most
    return found[::step]


class AgainstTheReference(unittest.TestCase):
    def check(self, m, preferences, a):
        answered = after(market(m, *preferences) + [set_assignment(a)], *QUERIES)
        popular = reference.popular(m, preferences, a)
        self.assertEqual(answered[0], [len(a) - a.count(-1)] + a)
        self.assertEqual(answered[1], [1 if popular else 0])
        self.assertEqual(answered[2], reference.challenger(m, preferences, a))
        self.assertEqual(answered[3], reference.factor(m, preferences, a))
        self.assertEqual(answered[4], [1 if popular else 0])
        self.assertEqual(popular, reference.characterized(preferences, a))
        self.assertEqual(popular, answered[2][1] == 0)
        self.assertEqual(popular, answered[3][0] == 0 and answered[3][1] <= answered[3][2])

    def test_every_assignment_of_every_small_market(self):
        for m, preferences in small_markets():
            for a in reference.assignments(m, preferences):
                with self.subTest(m=m, preferences=preferences, a=a):
                    self.check(m, preferences, a)

    def test_some_assignments_of_greater_markets(self):
        for m, preferences in greater_markets():
            for a in some_of(reference.assignments(m, preferences), 8):
                with self.subTest(m=m, preferences=preferences, a=a):
                    self.check(m, preferences, a)

    def test_five_applicants_and_five_houses(self):
        preferences = [[0, 1, 2, 3, 4], [4, 3, 2, 1, 0], [0, 2], [4, 1, 3], [2, 0, 1]]
        for a in ([0, 4, 2, 1, -1], [1, 3, 0, 4, 2], [-1, -1, -1, -1, -1]):
            self.check(5, preferences, a)


class Votes(unittest.TestCase):
    def test_every_pair_in_some_small_markets(self):
        for m, preferences in some_of(list(small_markets()), 60):
            every = reference.assignments(m, preferences)
            for a in every:
                answered = after(market(m, *preferences) + [set_assignment(a)], *[compare(b) for b in every])
                awaited = [[reference.votes(preferences, a, b), reference.votes(preferences, b, a)] for b in every]
                self.assertEqual(answered, awaited)

    def test_no_assignment_has_a_greater_margin(self):
        for m, preferences in some_of(list(small_markets()), 60):
            every = reference.assignments(m, preferences)
            for a in every:
                calls = [strongest_challenger()] + [compare(b) for b in every]
                answered = after(market(m, *preferences) + [set_assignment(a)], *calls)
                margins = [other - current for current, other in answered[1:]]
                self.assertEqual(answered[0][1], max(margins))
                self.assertEqual(answered[0][2:], every[margins.index(max(margins))])


class WhatIsAnAssignment(unittest.TestCase):
    def test_every_list_near_the_range(self):
        for preferences in ([[0, 1], [1]], [[1, 0], [0, 1]], [[], [1]], [[2, 0], [1, 2, 0]]):
            m = 3 if [2, 0] in preferences else 2
            every = reference.assignments(m, preferences)
            for a in product(range(-2, m + 1), repeat=2):
                a = list(a)
                answered = after(market(m, *preferences), compare(a), set_assignment(a), assignment())
                if a in every:
                    housed = 2 - a.count(-1)
                    self.assertEqual(answered, [[0, housed], [housed], [housed] + a])
                else:
                    self.assertEqual(answered, [[-22], [-22], [0, -1, -1]])


class AllAssignments(unittest.TestCase):
    """What is counted and listed, over whole markets."""

    def check(self, m, preferences):
        every = reference.assignments(m, preferences)
        popular = reference.popular_assignments(m, preferences)
        calls = [count_assignments(), use_first_popular(), assignment()]
        calls += [popular_assignment(k) for k in range(-1, len(popular) + 1)]
        calls += [choices(i) for i in range(len(preferences))]
        answered = after(market(m, *preferences), *calls)
        self.assertEqual(answered[0], [len(every), len(popular)])
        shown = [[len(a) - a.count(-1)] + a for a in popular]
        self.assertEqual(answered[1], shown[0][:1] if shown else [-33])
        self.assertEqual(answered[2], shown[0] if shown else [0] + [-1] * len(preferences))
        self.assertEqual(answered[3:len(popular) + 5], [[-2]] + shown + [[-2]])
        self.assertEqual(answered[len(popular) + 5:], [[2, *pair] for pair in reference.choices(preferences)])

    def test_every_small_market(self):
        for m, preferences in small_markets():
            with self.subTest(m=m, preferences=preferences):
                self.check(m, preferences)

    def test_greater_markets(self):
        for m, preferences in greater_markets():
            with self.subTest(m=m, preferences=preferences):
                self.check(m, preferences)

    def test_each_assignment_of_a_largest_market_is_asked_for(self):
        # By its margins, one assignment after the other, as the desk itself finds them popular.
        preferences = [[0, 2, 1, 3, 4], [0, 3, 1, 2, 4], [0, 4, 1, 2, 3], [1, 2, 0, 3, 4], [1, 3, 0, 2, 4]]
        found = []
        every = reference.assignments(5, preferences)
        for place in range(0, len(every), 27):
            part = every[place:place + 27]
            calls = [call for a in part for call in (set_assignment(a), is_popular())]
            answered = after(market(5, *preferences), *calls)
            found += [a for a, result in zip(part, answered[1::2]) if result == [1]]
        answered = after(market(5, *preferences), count_assignments(), popular_assignment(0), popular_assignment(1))
        self.assertEqual(answered, [[1546, 2]] + [[5] + a for a in found])


class Lotteries(unittest.TestCase):
    def evaluated(self, m, preferences, entries):
        calls = [call for weight, a in entries for call in (set_assignment(a), add_to_lottery(weight))]
        return after(market(m, *preferences) + calls, evaluate_lottery())[0]

    def test_against_the_reference(self):
        chance = random.Random(3)
        for m, preferences in some_of(list(small_markets()), 300) + list(greater_markets()):
            every = reference.assignments(m, preferences)
            few = chance.sample(every, min(3, len(every)))
            for size in (1, 2, 3, 12):
                heaviest = chance.choice((1, 4, 99))
                entries = [(chance.randint(1, heaviest), chance.choice(few)) for entry in range(size)]
                with self.subTest(m=m, preferences=preferences, entries=entries):
                    self.assertEqual(self.evaluated(m, preferences, entries),
                                     reference.lottery(m, preferences, entries))

    def test_single_entry_is_popular_if_its_assignment_is(self):
        for m, preferences in small_markets():
            for a in some_of(reference.assignments(m, preferences), 12):
                calls = [set_assignment(a), add_to_lottery(7), evaluate_lottery(), is_popular(), strongest_challenger()]
                answered = after(market(m, *preferences), *calls)[2:]
                self.assertEqual(answered[0][0], answered[1][0])
                self.assertEqual(answered[0][1:], [answered[2][1], 1] + answered[2][2:])

    def popular_lottery(self, m, preferences):
        """A popular lottery whose entries all have the same weight, by the margins of its entries."""
        every = reference.assignments(m, preferences)
        margins = [[reference.margin(preferences, b, a) for a in every] for b in every]
        for size in range(1, 5):
            for places in combinations(range(len(every)), size):
                if all(sum(row[place] for place in places) <= 0 for row in margins):
                    return [(9, every[place]) for place in places]
        raise AssertionError(f"no popular lottery of few entries for {preferences}")

    def test_every_small_market_has_a_popular_lottery(self):
        four_applicants = [(2, list(lists)) for lists in product(all_lists(2), repeat=4)]
        lacking = 0
        for m, preferences in list(small_markets()) + four_applicants:
            if not reference.popular_assignments(m, preferences):
                lacking += 1
            entries = self.popular_lottery(m, preferences)
            self.assertEqual(self.evaluated(m, preferences, entries)[:3], [1, 0, 1])
        self.assertEqual(lacking, 20)


if __name__ == "__main__":
    unittest.main()
