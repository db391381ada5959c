"""A market with its current assignment. Each call answers a list of numbers."""

from houselot.assignments import count_housed, is_assignment
from houselot.codes import NO_FACTOR, NO_HOUSE, NONE_HELD, NOT_ALLOWED, NOT_THERE, TAKEN
from houselot.votes import find_challenger, find_factor, is_beaten, margin, votes


class Market:
    """The applicants' preference lists, and the house that each applicant has now."""

    def __init__(self, n, m):
        self.house_total = m
        self.preferences = [[] for applicant in range(n)]
        self.current = [NO_HOUSE] * n

    def has_applicant(self, i):
        """Tell whether applicant i exists."""
        return 0 <= i < len(self.preferences)

    def is_preference_list(self, houses):
        """Tell whether these are different houses of this market."""
        for house in houses:
            if not 0 <= house < self.house_total:
                return False
        return len(set(houses)) == len(houses)

    def set_preferences(self, i, houses):
        """Replace the preference list of applicant i; nobody keeps a house."""
        if not self.has_applicant(i):
            return [NOT_THERE]
        if not self.is_preference_list(houses):
            return [NOT_ALLOWED]
        self.preferences[i] = list(houses)
        # What was assigned may not be acceptable any more.
        self.current = [NO_HOUSE] * len(self.preferences)
        return [len(houses)]

    def assign(self, i, h):
        """Give house h to applicant i, in place of the house that they have."""
        if not self.has_applicant(i):
            return [NOT_THERE]
        if h not in self.preferences[i]:
            return [NOT_ALLOWED]
        if h in self.current and self.current[i] != h:
            return [TAKEN]
        self.current[i] = h
        return [count_housed(self.current)]

    def unassign(self, i):
        """Take the house from applicant i."""
        if not self.has_applicant(i):
            return [NOT_THERE]
        house = self.current[i]
        if house == NO_HOUSE:
            return [NONE_HELD]
        self.current[i] = NO_HOUSE
        return [house]

    def set_assignment(self, a):
        """Replace the current assignment."""
        if not is_assignment(self.preferences, a):
            return [NOT_ALLOWED]
        self.current = list(a)
        return [count_housed(self.current)]

    def assignment(self):
        """Answer how many applicants have a house, and the current assignment."""
        return [count_housed(self.current)] + self.current

    def compare(self, a):
        """Answer the votes for the current assignment and those for the other one."""
        if not is_assignment(self.preferences, a):
            return [NOT_ALLOWED]
        return [votes(self.preferences, self.current, a), votes(self.preferences, a, self.current)]

    def is_popular(self):
        """Answer 1 if no assignment beats the current one, otherwise 0."""
        return [0 if is_beaten(self.preferences, self.current) else 1]

    def strongest_challenger(self):
        """Answer the number of applicants, the greatest margin, and the first assignment with it."""
        challenger = find_challenger(self.preferences, self.current)
        lead = margin(self.preferences, challenger, self.current)
        return [len(self.preferences), lead] + challenger

    def unpopularity_factor(self):
        """Answer 0 and the unpopularity factor of the current assignment."""
        factor = find_factor(self.preferences, self.current)
        if factor is None:
            return [NO_FACTOR]
        return [0, factor[0], factor[1]]
