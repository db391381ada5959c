"""The document's words once more, as plainly as can be, for the tests to measure against."""

from fractions import Fraction
from itertools import product


def assignments(m, preferences):
    """All assignments in their order."""
    fitting = []
    for a in product(range(-1, m), repeat=len(preferences)):
        taken = [house for house in a if house >= 0]
        acceptable = all(house == -1 or house in houses for house, houses in zip(a, preferences))
        if acceptable and len(taken) == len(set(taken)):
            fitting.append(list(a))
    return sorted(fitting, key=lambda a: [m if house == -1 else house for house in a])


def prefers(houses, house, other):
    order = list(houses) + [-1]
    return order.index(house) < order.index(other)


def votes(preferences, a, b):
    return sum(prefers(houses, x, y) for houses, x, y in zip(preferences, a, b))


def margin(preferences, b, a):
    return votes(preferences, b, a) - votes(preferences, a, b)


def popular(m, preferences, a):
    return not any(margin(preferences, b, a) > 0 for b in assignments(m, preferences))


def challenger(m, preferences, a):
    everything = assignments(m, preferences)
    greatest = max(margin(preferences, b, a) for b in everything)
    first = next(b for b in everything if margin(preferences, b, a) == greatest)
    return [len(preferences), greatest] + first


def factor(m, preferences, a):
    ratios = [Fraction(0)]
    for b in assignments(m, preferences):
        won, lost = votes(preferences, b, a), votes(preferences, a, b)
        if won > 0 and lost == 0:
            return [-33]
        if won > 0:
            ratios.append(Fraction(won, lost))
    return [0, max(ratios).numerator, max(ratios).denominator]


def choices(preferences):
    """The first and the second choice of every applicant."""
    firsts = [houses[0] if houses else -1 for houses in preferences]
    seconds = [next((h for h in houses if h not in firsts), -1) for houses in preferences]
    return list(zip(firsts, seconds))


def characterized(preferences, a):
    """Whether the first and second choices say that the assignment is popular."""
    pairs = choices(preferences)
    chosen = all(house in pair for house, pair in zip(a, pairs))
    return chosen and all(first in a for first, second in pairs if first != -1)


def popular_assignments(m, preferences):
    """All popular assignments in their order, by their margins."""
    everything = assignments(m, preferences)
    return [a for a in everything if not any(margin(preferences, b, a) > 0 for b in everything)]


def lottery(m, preferences, entries):
    """What is answered of a lottery, given as pairs of a weight and an assignment."""
    total = sum(weight for weight, a in entries)
    everything = assignments(m, preferences)
    margins = [Fraction(sum(weight * margin(preferences, b, a) for weight, a in entries), total) for b in everything]
    greatest = max(margins)
    first = everything[margins.index(greatest)]
    return [0 if greatest > 0 else 1, greatest.numerator, greatest.denominator] + first
