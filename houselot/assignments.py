"""The assignments that a list of preference lists, one for each applicant, allows."""

from houselot.codes import NO_HOUSE


def count_housed(assignment):
    """Count the applicants with a house."""
    return len(assignment) - assignment.count(NO_HOUSE)


def is_assignment(preferences, numbers):
    """Tell whether the numbers are an assignment."""
    if len(numbers) != len(preferences):
        return False
    taken = [house for house in numbers if house != NO_HOUSE]
    if len(set(taken)) != len(taken):
        return False
    for house, houses in zip(numbers, preferences):
        if house != NO_HOUSE and house not in houses:
            return False
    return True


def all_assignments(preferences):
    """List all assignments in their order."""
    found = [[]]
    for houses in preferences:
        # Going through the houses upwards, and then none, keeps the lists in order as they grow.
        offers = sorted(houses) + [NO_HOUSE]
        longer = []
        for begun in found:
            for house in offers:
                if house == NO_HOUSE or house not in begun:
                    longer.append(begun + [house])
        found = longer
    return found
