"""The desk: reads a list of calls, carries them out in order, and lists what they answer."""

from houselot.codes import NO_INSTANCE, NOT_ALLOWED
from houselot.market import Market

GREATEST_SIZE = 5

# How many whole numbers each call has, at the place of the call's number.
NUMBERS = (2, 1, 2, 1, 0, 0, 0, 0, 0, 0, 0, 1, 0, 1, 0, 1, 0, 0, 0)

# The calls that have a row behind their whole numbers.
WITH_ROW = (1, 4, 6)

# The calls that may change the market.
CHANGES = (1, 2, 3, 4, 12, 15, 17)


class Desk:
    """Keeps the market, once there is one, and carries out single calls on it."""

    def __init__(self):
        self.market = None

    def create(self, n, m):
        """Begin a new market in the place of the old one."""
        if not 1 <= n <= GREATEST_SIZE or not 1 <= m <= GREATEST_SIZE:
            return [NOT_ALLOWED]
        self.market = Market(n, m)
        return [0]

    def carry_out(self, call, numbers, row):
        """Carry out one call; answer its list of numbers."""
        if call == 0:
            return self.create(numbers[0], numbers[1])
        if self.market is None:
            return [NO_INSTANCE]
        if call in CHANGES:
            return change(self.market, call, numbers, row)
        return ask(self.market, call, numbers, row)


def change(market, call, numbers, row):
    """Carry out one of the calls that change the market."""
    if call == 1:
        return market.set_preferences(numbers[0], row)
    if call == 2:
        return market.assign(numbers[0], numbers[1])
    if call == 3:
        return market.unassign(numbers[0])
    if call == 4:
        return market.set_assignment(row)
    if call == 12:
        return market.use_first_popular()
    if call == 15:
        return market.add_to_lottery(numbers[0])
    return market.clear_lottery()


def ask(market, call, numbers, row):
    """Carry out one of the calls that leave the market as it is."""
    if call == 5:
        return market.assignment()
    if call == 6:
        return market.compare(row)
    if call == 7:
        return market.is_popular()
    if call == 8:
        return market.strongest_challenger()
    if call == 9:
        return market.unpopularity_factor()
    if call == 10:
        return market.count_assignments()
    if call == 11:
        return market.popular_assignment(numbers[0])
    if call == 13:
        return market.choices(numbers[0])
    if call == 14:
        return market.check_characterization()
    if call == 16:
        return market.evaluate_lottery()
    return market.describe()


def read_calls(calls):
    """Take the list apart into calls: for each its number, its whole numbers and its row."""
    found = []
    place = 0
    while place < len(calls):
        call = calls[place]
        stop = place + 1 + NUMBERS[call]
        numbers = calls[place + 1:stop]
        row = []
        if call in WITH_ROW:
            start = stop + 1
            stop = start + calls[stop]
            row = calls[start:stop]
        found.append((call, numbers, row))
        place = stop
    return found


def answers(calls):
    """Carry out all calls; for each, give how many numbers it answers, and these."""
    desk = Desk()
    listed = []
    for call, numbers, row in read_calls(calls):
        answer = desk.carry_out(call, numbers, row)
        listed.append(len(answer))
        listed.extend(answer)
    return listed
