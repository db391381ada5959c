"""The whole desk once more, call by call as the document tells it, for the tests to measure against."""

import reference


class Model:
    """One object with the document's operations; each answers its list of numbers."""

    def __init__(self):
        self.m = None
        self.operations = [
            self.create, self.set_preferences, self.assign, self.unassign, self.set_assignment, self.assignment,
            self.compare, self.is_popular, self.strongest_challenger, self.unpopularity_factor,
            self.count_assignments, self.popular_assignment, self.use_first_popular, self.choices,
            self.check_characterization, self.add_to_lottery, self.evaluate_lottery, self.clear_lottery,
            self.describe]

    def answer(self, call):
        """The answer to a call that is written as the desk reads it."""
        if self.m is None and call[0] != 0:
            return [-11]
        return self.operations[call[0]](*call[1:])

    def applicants(self):
        return range(len(self.preferences))

    def is_assignment(self, a):
        return a in reference.assignments(self.m, self.preferences)

    def housed(self, a):
        return len(a) - a.count(-1)

    def popular(self):
        return reference.popular_assignments(self.m, self.preferences)

    def create(self, n, m):
        if n not in range(1, 6) or m not in range(1, 6):
            return [-22]
        self.m = m
        self.preferences = [[]] * n
        self.current = [-1] * n
        self.entries = []
        return [0]

    def set_preferences(self, i, size, *houses):
        if i not in self.applicants():
            return [-2]
        if any(h not in range(self.m) or houses.count(h) > 1 for h in houses):
            return [-22]
        self.preferences = self.preferences[:i] + [list(houses)] + self.preferences[i + 1:]
        self.current = [-1] * len(self.preferences)
        self.entries = []
        return [size]

    def assign(self, i, h):
        if i not in self.applicants():
            return [-2]
        if h not in self.preferences[i]:
            return [-22]
        if h in self.current[:i] + self.current[i + 1:]:
            return [-17]
        self.current = self.current[:i] + [h] + self.current[i + 1:]
        return [self.housed(self.current)]

    def unassign(self, i):
        if i not in self.applicants():
            return [-2]
        house = self.current[i]
        if house == -1:
            return [-6]
        self.current = self.current[:i] + [-1] + self.current[i + 1:]
        return [house]

    def set_assignment(self, size, *a):
        if not self.is_assignment(list(a)):
            return [-22]
        self.current = list(a)
        return [self.housed(self.current)]

    def assignment(self):
        return [self.housed(self.current)] + self.current

    def compare(self, size, *a):
        if not self.is_assignment(list(a)):
            return [-22]
        return [reference.votes(self.preferences, self.current, a), reference.votes(self.preferences, a, self.current)]

    def is_popular(self):
        return [int(reference.popular(self.m, self.preferences, self.current))]

    def strongest_challenger(self):
        return reference.challenger(self.m, self.preferences, self.current)

    def unpopularity_factor(self):
        return reference.factor(self.m, self.preferences, self.current)

    def count_assignments(self):
        return [len(reference.assignments(self.m, self.preferences)), len(self.popular())]

    def popular_assignment(self, k):
        if k not in range(len(self.popular())):
            return [-2]
        a = self.popular()[k]
        return [self.housed(a)] + a

    def use_first_popular(self):
        if not self.popular():
            return [-33]
        self.current = self.popular()[0]
        return [self.housed(self.current)]

    def choices(self, i):
        if i not in self.applicants():
            return [-2]
        return [2, *reference.choices(self.preferences)[i]]

    def check_characterization(self):
        return [int(reference.characterized(self.preferences, self.current))]

    def add_to_lottery(self, weight):
        if weight not in range(1, 100):
            return [-22]
        if len(self.entries) == 12:
            return [-28]
        self.entries = self.entries + [(weight, self.current)]
        return [sum(weight for weight, a in self.entries)]

    def evaluate_lottery(self):
        if not self.entries:
            return [-6]
        return reference.lottery(self.m, self.preferences, self.entries)

    def clear_lottery(self):
        removed = len(self.entries)
        self.entries = []
        return [removed]

    def describe(self):
        listed = [[len(houses)] + houses for houses in self.preferences]
        return [len(self.preferences), self.m] + sum(listed, [])


def modelled(calls):
    """The answers to the calls, a list for each, as the document asks for them."""
    model = Model()
    return [model.answer(call) for call in calls]
