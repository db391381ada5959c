"""Votes between assignments, and what the votes say of one assignment."""

from houselot.assignments import all_assignments
from houselot.codes import NO_HOUSE
from houselot.fraction import lowest_terms


def rank(houses, house):
    """Tell how many houses the applicant likes better than this one, or than none."""
    if house == NO_HOUSE:
        return len(houses)
    return houses.index(house)


def votes(preferences, assignment, other):
    """Count the applicants who prefer their house in the assignment to that in the other."""
    total = 0
    for i, houses in enumerate(preferences):
        if rank(houses, assignment[i]) < rank(houses, other[i]):
            total += 1
    return total


def margin(preferences, challenger, assignment):
    """Give the margin of the challenger against the assignment."""
    return votes(preferences, challenger, assignment) - votes(preferences, assignment, challenger)


def find_challenger(preferences, assignment):
    """Find the first of the assignments with the greatest margin against this one."""
    strongest = assignment
    greatest = None
    for challenger in all_assignments(preferences):
        lead = margin(preferences, challenger, assignment)
        # Only a greater margin displaces, so that the first of equals stays.
        if greatest is None or lead > greatest:
            strongest = challenger
            greatest = lead
    return strongest


def is_beaten(preferences, assignment):
    """Tell whether some assignment has a positive margin against this one."""
    challenger = find_challenger(preferences, assignment)
    return margin(preferences, challenger, assignment) > 0


def find_factor(preferences, assignment):
    """Find the unpopularity factor as numerator and denominator; None if it doesn't exist."""
    numerator = 0
    denominator = 1
    for challenger in all_assignments(preferences):
        won = votes(preferences, challenger, assignment)
        lost = votes(preferences, assignment, challenger)
        if won > 0 and lost == 0:
            return None
        # Multiplying across compares the two ratios without dividing.
        if won * denominator > numerator * lost:
            numerator = won
            denominator = lost
    return lowest_terms(numerator, denominator)
