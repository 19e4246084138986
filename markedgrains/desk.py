"""The calls on the tanks: one flat list of whole numbers in, another one out."""

START = 0
COME_IN = 1
POUR = 2

# At a call's number: how many whole numbers follow it.
WIDTHS = (1, 4, 3)

MOST_TANKS = 32
MOST_AMOUNT = 1048576
MOST_EVENTS = 256

WRONG_VALUE = -22
NO_ROOM = -28
TOO_FEW = -33


class Tanks:
    """The tanks' grains, and every coming in and pouring in its order.

    Each method answers a call's number and, where that is a refusal, changes nothing.
    """

    def __init__(self):
        self.grains = []
        # Kept whole, not just counted: what may be marked hangs on all that was done.
        self.events = []

    def begin(self, tanks):
        if tanks == 0 or tanks > MOST_TANKS:
            return WRONG_VALUE
        self.grains = [0 for tank in range(tanks)]
        self.events = []
        return 0

    def come_in(self, tank, amount, least, most):
        if not self.is_there(tank) or amount == 0 or amount > MOST_AMOUNT:
            return WRONG_VALUE
        if least > most or most > amount:
            return WRONG_VALUE
        if self.is_full():
            return NO_ROOM
        self.grains[tank] += amount
        return self.keep((COME_IN, tank, amount, least, most))

    def pour(self, source, goal, amount):
        if not self.is_there(source) or not self.is_there(goal):
            return WRONG_VALUE
        if source == goal or amount == 0:
            return WRONG_VALUE
        if self.grains[source] < amount:
            return TOO_FEW
        if self.is_full():
            return NO_ROOM
        self.grains[source] -= amount
        self.grains[goal] += amount
        return self.keep((POUR, source, goal, amount))

    def is_there(self, tank):
        return tank < len(self.grains)

    def is_full(self):
        return len(self.events) >= MOST_EVENTS

    def keep(self, event):
        before = len(self.events)
        self.events.append(event)
        return before


def answer(tanks, number, values):
    if number == START:
        return tanks.begin(values[0])
    if number == COME_IN:
        return tanks.come_in(values[0], values[1], values[2], values[3])
    return tanks.pour(values[0], values[1], values[2])


def answers(calls):
    """For each call, in order: how many numbers are answered, then these."""
    tanks = Tanks()
    answered = []
    place = 0
    while place < len(calls):
        number = calls[place]
        behind = place + 1 + WIDTHS[number]
        answered.append(1)
        answered.append(answer(tanks, number, calls[place + 1:behind]))
        place = behind
    return answered
