"""The calls on the tanks: one flat list of whole numbers in, another one out."""

START = 0
COME_IN = 1
POUR = 2
HAS = 3
MOST = 4

# At a call's number, from start to least (5): how many whole numbers follow it.
WIDTHS = (1, 4, 3, 1, 1, 1)

MOST_TANKS = 32
MOST_AMOUNT = 1048576
MOST_EVENTS = 256

WRONG_VALUE = -22
NO_ROOM = -28
TOO_FEW = -33


class Net:
    """Nodes, and ways from node to node, each with room for so many grains.

    Every way has a twin, the other way round: what is sent along the one makes room on the other,
    for it may be sent back there and take another way. The numbers of twins differ in bit 0 alone.
    """

    def __init__(self, nodes):
        # By node: the numbers of the ways that leave it.
        self.leaving = [[] for node in range(nodes)]
        # By way: the node it leads to, and the room it has left.
        self.goals = []
        self.rooms = []

    def add_way(self, source, goal, room):
        self.add_half(source, goal, room)
        self.add_half(goal, source, 0)

    def add_half(self, source, goal, room):
        self.leaving[source].append(len(self.goals))
        self.goals.append(goal)
        self.rooms.append(room)

    def send_all(self, source, sink):
        """Send as many grains as can go from source to sink: how many.

        Going by the shortest paths first, so the number of rounds hangs on the nodes, not on the grains.
        """
        sent = 0
        steps = self.steps_to(sink)
        while steps[source] >= 0:
            sent += self.send_shortest(source, sink, steps)
            steps = self.steps_to(sink)
        return sent

    def steps_to(self, sink):
        """By node: by how few ways with room the sink is reached from it; -1 where it isn't."""
        steps = [-1 for node in self.leaving]
        steps[sink] = 0
        reached = [sink]
        place = 0
        while place < len(reached):
            node = reached[place]
            for way in self.leaving[node]:
                before = self.goals[way]
                if steps[before] < 0 and self.rooms[way ^ 1] > 0:
                    steps[before] = steps[node] + 1
                    reached.append(before)
            place += 1
        return steps

    def send_shortest(self, source, sink, steps):
        """Send along the shortest paths till none of them has room: how many grains.

        steps: by node, how far the sink is.
        """
        # By node: how many of the ways that leave it are of no more use.
        tried = [0 for node in steps]
        sent = 0
        path = []
        node = source
        while tried[source] < len(self.leaving[source]):
            if node == sink:
                sent += self.send_along(path)
                path = self.with_room(path)
                node = self.goals[path[-1]] if path else source
            elif tried[node] == len(self.leaving[node]):
                node = self.goals[path.pop() ^ 1]
                tried[node] += 1
            else:
                way = self.leaving[node][tried[node]]
                if self.rooms[way] > 0 and steps[self.goals[way]] == steps[node] - 1:
                    path.append(way)
                    node = self.goals[way]
                else:
                    tried[node] += 1
        return sent

    def send_along(self, path):
        """Send as many grains as the whole path has room for: how many."""
        part = min([self.rooms[way] for way in path])
        for way in path:
            self.rooms[way] -= part
            self.rooms[way ^ 1] += part
        return part

    def with_room(self, path):
        """The path as far as its first way without room."""
        kept = []
        for way in path:
            if self.rooms[way] == 0:
                return kept
            kept.append(way)
        return kept


class Lots:
    """How many grains may be marked, lot by lot.

    A lot is what is in a tank from one pouring out of it to the next one. What comes in meanwhile
    joins it; the pouring parts it: some go along and join the lot that is in the goal, the rest is
    the next lot in the source. For its marked grains either way has room for as many as go there.
    That no more may be in the rest is the same as that of the others no more go along than are there.
    """

    def __init__(self, tanks):
        # By tank: the lot that is in it now.
        self.now = list(range(tanks))
        # By lot: how many of the grains that came into it are marked.
        self.leasts = [0 for tank in range(tanks)]
        self.mosts = [0 for tank in range(tanks)]
        # From which lot, into which lot, and how many grains went this way.
        self.ways = []

    def join_lot(self, tank, least, most):
        self.leasts[self.now[tank]] += least
        self.mosts[self.now[tank]] += most

    def part_lot(self, source, goal, amount, rest):
        parted = self.now[source]
        self.now[source] = len(self.leasts)
        self.leasts.append(0)
        self.mosts.append(0)
        self.ways.append((parted, self.now[goal], amount))
        self.ways.append((parted, self.now[source], rest))

    def most_in(self, tanks):
        # One more marked in a coming in never makes it fewer: all may be at their most.
        return self.most_brought(self.mosts, tanks)

    def least_in(self, others):
        """The least in all tanks but these others: what is left, if as many as may be are in the others."""
        # One less marked in a coming in never makes it more: all may be at their least.
        return sum(self.leasts) - self.most_brought(self.leasts, others)

    def most_brought(self, marked, tanks):
        """How many may get into the tanks, if so many are marked of what came into each lot.

        The others needn't be sent: a lot's two ways have room for all of it, so they find one.
        """
        source = len(marked)
        sink = source + 1
        net = Net(sink + 1)
        for lot, grains in enumerate(marked):
            net.add_way(source, lot, grains)
        for parted, joined, room in self.ways:
            net.add_way(parted, joined, room)
        for tank in tanks:
            net.add_way(self.now[tank], sink, sum(marked))
        return net.send_all(source, sink)


class Tanks:
    """The tanks' grains, and what may be marked of them.

    Each method that is a call answers its number and, where that is a refusal, changes nothing.
    """

    def __init__(self):
        self.grains = []
        self.lots = Lots(0)
        self.events = 0

    def begin(self, tanks):
        if tanks == 0 or tanks > MOST_TANKS:
            return WRONG_VALUE
        self.grains = [0 for tank in range(tanks)]
        self.lots = Lots(tanks)
        self.events = 0
        return 0

    def come_in(self, tank, amount, least, most):
        if not self.is_there(tank) or amount == 0 or amount > MOST_AMOUNT:
            return WRONG_VALUE
        if least > most or most > amount:
            return WRONG_VALUE
        if self.is_full():
            return NO_ROOM
        self.grains[tank] += amount
        self.lots.join_lot(tank, least, most)
        return self.count_event()

    def pour(self, source, goal, amount):
        if not self.is_there(source) or not self.is_there(goal):
            return WRONG_VALUE
        if source == goal or amount == 0:
            return WRONG_VALUE
        if self.grains[source] < amount:
            return TOO_FEW
        if self.is_full():
            return NO_ROOM
        self.grains[source] -= amount
        self.grains[goal] += amount
        self.lots.part_lot(source, goal, amount, self.grains[source])
        return self.count_event()

    def has(self, tank):
        if not self.is_there(tank):
            return WRONG_VALUE
        return self.grains[tank]

    def most(self, tank_set):
        if not self.are_there(tank_set):
            return WRONG_VALUE
        return self.lots.most_in(self.tanks_with(tank_set, 1))

    def least(self, tank_set):
        if not self.are_there(tank_set):
            return WRONG_VALUE
        return self.lots.least_in(self.tanks_with(tank_set, 0))

    def is_there(self, tank):
        return tank < len(self.grains)

    def are_there(self, tank_set):
        return tank_set >> len(self.grains) == 0

    def tanks_with(self, tank_set, bit):
        return [tank for tank in range(len(self.grains)) if tank_set >> tank & 1 == bit]

    def is_full(self):
        return self.events >= MOST_EVENTS

    def count_event(self):
        before = self.events
        self.events += 1
        return before


def answer(tanks, number, values):
    if number == START:
        return tanks.begin(values[0])
    if number == COME_IN:
        return tanks.come_in(values[0], values[1], values[2], values[3])
    if number == POUR:
        return tanks.pour(values[0], values[1], values[2])
    if number == HAS:
        return tanks.has(values[0])
    if number == MOST:
        return tanks.most(values[0])
    return tanks.least(values[0])


def answers(calls):
    """For each call, in order: how many numbers are answered, then these."""
    tanks = Tanks()
    answered = []
    place = 0
    while place < len(calls):
        number = calls[place]
        behind = place + 1 + WIDTHS[number]
        answered.append(1)
        answered.append(answer(tanks, number, calls[place + 1:behind]))
        place = behind
    return answered
