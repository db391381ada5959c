"""First and second choices, and the popular assignments, which they characterize."""

from houselot.assignments import all_assignments
from houselot.codes import NO_HOUSE


def first_choices(preferences):
    """Give each applicant's first choice."""
    return [houses[0] if houses else NO_HOUSE for houses in preferences]


def second_choices(preferences):
    """Give each applicant's second choice."""
    firsts = first_choices(preferences)
    found = []
    for houses in preferences:
        others = [house for house in houses if house not in firsts]
        found.append(others[0] if others else NO_HOUSE)
    return found


def agrees(firsts, seconds, assignment):
    """Tell whether the assignment satisfies the characterization by these choices."""
    for house, first, second in zip(assignment, firsts, seconds):
        if house not in (first, second):
            return False
    for first in firsts:
        if first != NO_HOUSE and first not in assignment:
            return False
    return True


def is_characterized(preferences, assignment):
    """Tell whether the assignment satisfies the characterization."""
    return agrees(first_choices(preferences), second_choices(preferences), assignment)


def popular_assignments(preferences):
    """List the popular assignments in their order."""
    # Exactly these satisfy the characterization. Measuring every assignment against every other one would find the
    # same ones, but takes too long where there are many.
    firsts = first_choices(preferences)
    seconds = second_choices(preferences)
    return [assignment for assignment in all_assignments(preferences) if agrees(firsts, seconds, assignment)]
