"""A market with its current assignment and its lottery. Each call answers a list of numbers."""

from houselot.assignments import all_assignments, count_housed, is_assignment
from houselot.choices import first_choices, is_characterized, popular_assignments, second_choices
from houselot.codes import LOTTERY_FULL, NO_HOUSE, NONE_EXISTS, NOT_ALLOWED, NOT_THERE, NOTHING_HELD, TAKEN
from houselot.fraction import lowest_terms
from houselot.votes import find_challenger, find_factor, votes

GREATEST_WEIGHT = 99
MOST_ENTRIES = 12


class Market:
    """The applicants' preference lists, the house that each applicant has now, and the lottery."""

    def __init__(self, n, m):
        self.house_total = m
        self.preferences = [[] for applicant in range(n)]
        self.current = [NO_HOUSE] * n
        # Each entry is a weight and an assignment.
        self.lottery = []

    def has_applicant(self, i):
        """Tell whether applicant i exists."""
        return 0 <= i < len(self.preferences)

    def is_preference_list(self, houses):
        """Tell whether these are different houses of this market."""
        for house in houses:
            if not 0 <= house < self.house_total:
                return False
        return len(set(houses)) == len(houses)

    def set_preferences(self, i, houses):
        """Replace the preference list of applicant i; nobody keeps a house, the lottery no entry."""
        if not self.has_applicant(i):
            return [NOT_THERE]
        if not self.is_preference_list(houses):
            return [NOT_ALLOWED]
        self.preferences[i] = list(houses)
        # What was assigned may not be acceptable any more.
        self.current = [NO_HOUSE] * len(self.preferences)
        self.lottery = []
        return [len(houses)]

    def assign(self, i, h):
        """Give house h to applicant i, in place of the house that they have."""
        if not self.has_applicant(i):
            return [NOT_THERE]
        if h not in self.preferences[i]:
            return [NOT_ALLOWED]
        if h in self.current and self.current[i] != h:
            return [TAKEN]
        self.current[i] = h
        return [count_housed(self.current)]

    def unassign(self, i):
        """Take the house from applicant i."""
        if not self.has_applicant(i):
            return [NOT_THERE]
        house = self.current[i]
        if house == NO_HOUSE:
            return [NOTHING_HELD]
        self.current[i] = NO_HOUSE
        return [house]

    def set_assignment(self, a):
        """Replace the current assignment."""
        if not is_assignment(self.preferences, a):
            return [NOT_ALLOWED]
        self.current = list(a)
        return [count_housed(self.current)]

    def assignment(self):
        """Answer how many applicants have a house, and the current assignment."""
        return [count_housed(self.current)] + self.current

    def compare(self, a):
        """Answer the votes for the current assignment and those for the other one."""
        if not is_assignment(self.preferences, a):
            return [NOT_ALLOWED]
        return [votes(self.preferences, self.current, a), votes(self.preferences, a, self.current)]

    def is_popular(self):
        """Answer 1 if no assignment beats the current one, otherwise 0."""
        lead = find_challenger(self.preferences, [(1, self.current)])[0]
        return [0 if lead > 0 else 1]

    def strongest_challenger(self):
        """Answer the number of applicants, the greatest margin, and the first assignment with it."""
        lead, challenger = find_challenger(self.preferences, [(1, self.current)])
        return [len(self.preferences), lead] + challenger

    def unpopularity_factor(self):
        """Answer 0 and the unpopularity factor of the current assignment."""
        factor = find_factor(self.preferences, self.current)
        if factor is None:
            return [NONE_EXISTS]
        return [0, factor[0], factor[1]]

    def count_assignments(self):
        """Answer how many assignments there are, and how many popular ones."""
        return [len(all_assignments(self.preferences)), len(popular_assignments(self.preferences))]

    def popular_assignment(self, k):
        """Answer how many applicants have a house in popular assignment k, and this assignment."""
        popular = popular_assignments(self.preferences)
        if not 0 <= k < len(popular):
            return [NOT_THERE]
        return [count_housed(popular[k])] + popular[k]

    def use_first_popular(self):
        """Replace the current assignment by the first popular one."""
        popular = popular_assignments(self.preferences)
        if not popular:
            return [NONE_EXISTS]
        self.current = popular[0]
        return [count_housed(self.current)]

    def choices(self, i):
        """Answer 2, and the first and the second choice of applicant i."""
        if not self.has_applicant(i):
            return [NOT_THERE]
        return [2, first_choices(self.preferences)[i], second_choices(self.preferences)[i]]

    def check_characterization(self):
        """Answer 1 if the current assignment satisfies the characterization, otherwise 0."""
        return [1 if is_characterized(self.preferences, self.current) else 0]

    def total_weight(self):
        """Add up the weights of the lottery."""
        return sum([weight for weight, entry in self.lottery])

    def add_to_lottery(self, weight):
        """Append the current assignment to the lottery with this weight."""
        if not 1 <= weight <= GREATEST_WEIGHT:
            return [NOT_ALLOWED]
        if len(self.lottery) >= MOST_ENTRIES:
            return [LOTTERY_FULL]
        # An entry of its own, so that it stays when the current assignment changes.
        self.lottery.append((weight, list(self.current)))
        return [self.total_weight()]

    def evaluate_lottery(self):
        """Answer whether the lottery is popular, the greatest margin against it, and the first assignment with it."""
        if not self.lottery:
            return [NOTHING_HELD]
        lead, challenger = find_challenger(self.preferences, self.lottery)
        greatest = lowest_terms(lead, self.total_weight())
        return [0 if lead > 0 else 1, greatest[0], greatest[1]] + challenger

    def clear_lottery(self):
        """Remove all entries of the lottery."""
        removed = len(self.lottery)
        self.lottery = []
        return [removed]

    def describe(self):
        """Answer the numbers of applicants and houses, and each preference list behind its length."""
        answer = [len(self.preferences), self.house_total]
        for houses in self.preferences:
            answer.append(len(houses))
            answer.extend(houses)
        return answer
