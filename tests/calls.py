"""Writes calls as the desk reads them, and takes its answers apart again."""

from houselot.desk import answers

LOWEST = -2147483648
HIGHEST = 2147483647


def create(n, m):
    return [0, n, m]


def set_preferences(i, houses):
    return [1, i, len(houses)] + houses


def assign(i, h):
    return [2, i, h]


def unassign(i):
    return [3, i]


def set_assignment(a):
    return [4, len(a)] + a


def assignment():
    return [5]


def compare(a):
    return [6, len(a)] + a


def is_popular():
    return [7]


def strongest_challenger():
    return [8]


def unpopularity_factor():
    return [9]


def count_assignments():
    return [10]


def popular_assignment(k):
    return [11, k]


def use_first_popular():
    return [12]


def choices(i):
    return [13, i]


def check_characterization():
    return [14]


def add_to_lottery(weight):
    return [15, weight]


def evaluate_lottery():
    return [16]


def clear_lottery():
    return [17]


def describe():
    return [18]


def market(m, *preferences):
    """The calls that make a market with these preference lists."""
    made = [create(len(preferences), m)]
    for i, houses in enumerate(preferences):
        made.append(set_preferences(i, list(houses)))
    return made


def joined(calls):
    return [number for call in calls for number in call]


def taken_apart(listed):
    parts = []
    place = 0
    while place < len(listed):
        size = listed[place]
        part = listed[place + 1:place + 1 + size]
        if size < 1 or len(part) != size:
            raise AssertionError(f"no answer of {size} numbers at {place} of {listed}")
        parts.append(part)
        place += 1 + size
    return parts


def run(calls):
    """The answers to the calls, a list for each."""
    parts = taken_apart(answers(joined(calls)))
    if len(parts) != len(calls):
        raise AssertionError(f"{len(parts)} answers to {len(calls)} calls")
    return parts


def after(before, *calls):
    """The answers to the later calls alone."""
    return run(before + list(calls))[len(before):]
