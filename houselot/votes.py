"""Votes between assignments, and what the votes say of an assignment or a lottery."""

from houselot.assignments import all_assignments
from houselot.codes import NO_HOUSE
from houselot.fraction import lowest_terms


def rank(houses, house):
    """Tell how many houses the applicant likes better than this one, or than none."""
    if house == NO_HOUSE:
        return len(houses)
    return houses.index(house)


def vote(houses, house, other):
    """Give 1 for an applicant who prefers the house to the other, -1 for the reverse, 0 for no vote."""
    if rank(houses, house) < rank(houses, other):
        return 1
    if rank(houses, house) > rank(houses, other):
        return -1
    return 0


def votes(preferences, assignment, other):
    """Count the applicants who prefer their house in the assignment to that in the other."""
    total = 0
    for i, houses in enumerate(preferences):
        if vote(houses, assignment[i], other[i]) > 0:
            total += 1
    return total


def weighted_votes(houses, i, lottery):
    """For each house that applicant i could get, and none, add up their weighted votes against the lottery."""
    sums = {}
    for house in houses + [NO_HOUSE]:
        sums[house] = sum([weight * vote(houses, house, entry[i]) for weight, entry in lottery])
    return sums


def weighted_margin(sums, assignment):
    """Give the weighted margin of the assignment, from each applicant's weighted votes."""
    return sum([sums[i][house] for i, house in enumerate(assignment)])


def find_challenger(preferences, lottery):
    """Find the greatest weighted sum of margins against the lottery's entries, and the first assignment with it."""
    # How an applicant votes hangs on their own house alone, so each vote is counted once, ahead of the assignments.
    sums = [weighted_votes(houses, i, lottery) for i, houses in enumerate(preferences)]
    challengers = all_assignments(preferences)
    margins = [weighted_margin(sums, challenger) for challenger in challengers]
    greatest = max(margins)
    return (greatest, challengers[margins.index(greatest)])


def find_factor(preferences, assignment):
    """Find the unpopularity factor as numerator and denominator; None if it doesn't exist."""
    numerator = 0
    denominator = 1
    for challenger in all_assignments(preferences):
        won = votes(preferences, challenger, assignment)
        lost = votes(preferences, assignment, challenger)
        if won > 0 and lost == 0:
            return None
        # Multiplying across compares the two ratios without dividing.
        if won * denominator > numerator * lost:
            numerator = won
            denominator = lost
    return lowest_terms(numerator, denominator)
