"""Lists at the greatest sizes that may be handed in: what is due there, and that they come to an end."""

import random
import unittest

from calls import (
    BIGGEST, MOST_AMOUNT, MOST_CALLS, MOST_EVENTS, bounds, by_sets, come_in, drawn, every_set, least, most, pour, start,
    told)


class WhatIsDue(unittest.TestCase):
    def check(self, seed, tanks, greatest, comings):
        source = random.Random(seed)
        for events in (MOST_EVENTS, 150):
            calls = drawn(source, range(tanks), events, greatest, comings)
            due = by_sets(calls)
            sets = [source.getrandbits(tanks) for _ in range(40)] if tanks > 5 else every_set(tanks)
            self.assertEqual(bounds(calls, sets), [due[tank_set] for tank_set in sets], calls)

    def test_two_tanks(self):
        for seed, comings in ((51, 2), (52, 10), (53, 50), (54, 90)):
            self.check(seed, 2, MOST_AMOUNT, comings)

    def test_three_tanks(self):
        for seed, comings in ((61, 2), (62, 10), (63, 50)):
            self.check(seed, 3, MOST_AMOUNT, comings)

    def test_five_tanks(self):
        for seed, comings in ((71, 5), (72, 15), (73, 50)):
            self.check(seed, 5, MOST_AMOUNT, comings)

    def test_eight_tanks(self):
        for seed, comings in ((81, 5), (82, 15), (83, 40)):
            self.check(seed, 8, MOST_AMOUNT, comings)

    def test_ten_tanks_of_few_grains(self):
        for seed, comings in ((91, 15), (92, 40)):
            self.check(seed, 10, 9, comings)


def four_groups(source):
    """Four lists of 64 events, each among eight of the thirty-two tanks, drawn anywhere."""
    tanks = list(range(32))
    source.shuffle(tanks)
    groups = [tanks[place:place + 8] for place in range(0, 32, 8)]
    return groups, [drawn(source, range(8), 64, MOST_AMOUNT, 20) for _ in groups]


def room_by_time(calls, shares):
    """From each tank at each time to those it may go to by the next event: how many may.

    shares: of each coming in how many grains are sent, all from the node None.
    """
    grains = [0] * calls[0][1]
    room = {None: {}}
    for time, call in enumerate(calls[1:]):
        for tank in range(len(grains)):
            room[tank, time] = {(tank, time + 1): sum(grains)}
        if call[0] == 1:
            grains[call[1]] += call[2]
            room[None][call[1], time + 1] = shares[time]
        else:
            _, origin, goal, amount = call
            grains[origin] -= amount
            grains[goal] += amount
            room[origin, time] = {(origin, time + 1): grains[origin], (goal, time + 1): amount}
    return room, grains


def path_to(room, ends):
    """A row of nodes from None to one of the ends, as short as may be, with room all along; or nothing."""
    came = {None: None}
    row = [None]
    for node in row:
        if node in ends:
            path = [node]
            while path[-1] is not None:
                path.append(came[path[-1]])
            return path[::-1]
        for other, left in room.get(node, {}).items():
            if left > 0 and other not in came:
                came[other] = node
                row.append(other)
    return []


def most_sent(calls, shares, tank_set):
    """The most that get into the set's tanks by the last event, path by path."""
    room, grains = room_by_time(calls, shares)
    ends = {(tank, len(calls) - 1) for tank in range(len(grains)) if tank_set >> tank & 1}
    sent = 0
    path = path_to(room, ends)
    while path:
        steps = list(zip(path, path[1:]))
        part = min(room[node][other] for node, other in steps)
        for node, other in steps:
            room[node][other] -= part
            back = room.setdefault(other, {})
            back[node] = back.get(node, 0) + part
        sent += part
        path = path_to(room, ends)
    return sent


def by_time(calls, tank_set):
    """The set's least and most: as many as may be of the others, or of the marked ones, sent into it."""
    marked = [call[4] if call[0] == 1 else 0 for call in calls[1:]]
    others = [call[2] - call[3] if call[0] == 1 else 0 for call in calls[1:]]
    grains = room_by_time(calls, marked)[1]
    held = sum(grains[tank] for tank in range(len(grains)) if tank_set >> tank & 1)
    return held - most_sent(calls, others, tank_set), most_sent(calls, marked, tank_set)


def renamed(call, tanks):
    if call[0] == 1:
        return come_in(tanks[call[1]], *call[2:])
    return pour(tanks[call[1]], tanks[call[2]], call[3])


class ThirtyTwoTanks(unittest.TestCase):
    def test_by_time_holds_at_small_lists(self):
        source = random.Random(103)
        for _ in range(40):
            calls = drawn(source, range(3), 12, 5, 30)
            due = by_sets(calls)
            self.assertEqual([by_time(calls, tank_set) for tank_set in every_set(3)], due, calls)

    def test_all_of_them_mixed(self):
        source = random.Random(104)
        for comings in (12, 20, 40):
            calls = drawn(source, range(32), MOST_EVENTS, MOST_AMOUNT, comings)
            for tank_set in (source.getrandbits(32), source.getrandbits(32) & source.getrandbits(32)):
                self.assertEqual(bounds(calls, [tank_set]), [by_time(calls, tank_set)], (calls, tank_set))

    def test_groups_that_are_never_mixed(self):
        source = random.Random(101)
        for _ in range(4):
            groups, lists = four_groups(source)
            calls = [start(32)]
            for place in range(1, 65):
                calls.extend(renamed(calls_of[place], tanks) for tanks, calls_of in zip(groups, lists))
            due = [by_sets(calls_of) for calls_of in lists]
            for tank_set in [0, BIGGEST, 1, 1 << 31, 1 << 31 | 1] + [source.getrandbits(32) for _ in range(8)]:
                parts = [sum(1 << bit for bit, tank in enumerate(tanks) if tank_set >> tank & 1) for tanks in groups]
                few = sum(held[part][0] for held, part in zip(due, parts))
                many = sum(held[part][1] for held, part in zip(due, parts))
                self.assertEqual(bounds(calls, [tank_set]), [(few, many)], (calls, tank_set))

    def test_few_of_them_used(self):
        source = random.Random(102)
        for _ in range(4):
            calls = drawn(source, range(6), MOST_EVENTS, MOST_AMOUNT, 20)
            due = by_sets(calls)
            used = sorted(source.sample(range(32), 6))
            moved = [start(32)] + [renamed(call, used) for call in calls[1:]]
            for tank_set in every_set(6):
                wide = sum(1 << tank for bit, tank in enumerate(used) if tank_set >> bit & 1)
                empty = BIGGEST ^ sum(1 << tank for tank in used)
                wide |= empty & source.getrandbits(32)
                self.assertEqual(bounds(moved, [wide]), [due[tank_set]], (moved, wide))


class AsManyCallsAsThereMayBe(unittest.TestCase):
    def check(self, calls, source):
        """The calls, then most and least till there are three hundred; each least is no more than its most."""
        tanks = calls[0][1]
        asked = []
        while len(calls) + len(asked) < MOST_CALLS:
            tank_set = source.getrandbits(tanks)
            asked.extend([most(tank_set), least(tank_set)])
        asked = asked[:MOST_CALLS - len(calls)]
        given = told(*calls, *asked)
        self.assertEqual(given[:len(calls)], [0] + list(range(len(calls) - 1)))
        for many, few in zip(given[len(calls)::2], given[len(calls) + 1::2]):
            self.assertLessEqual(0, few)
            self.assertLessEqual(few, many)

    def test_thirty_two_tanks(self):
        source = random.Random(111)
        for events in (MOST_EVENTS, 150, 60):
            for comings in (5, 15, 40):
                self.check(drawn(source, range(32), events, MOST_AMOUNT, comings), source)

    def test_row_of_tanks_over_and_over(self):
        source = random.Random(112)
        calls = [start(32)] + [come_in(tank, MOST_AMOUNT, tank, MOST_AMOUNT // 2 + tank) for tank in range(32)]
        calls += [pour(turn % 32, (turn + 1) % 32, MOST_AMOUNT - 1000 * turn) for turn in range(MOST_EVENTS - 32)]
        self.check(calls, source)

    def test_to_and_fro(self):
        source = random.Random(113)
        calls = [start(2), come_in(0, MOST_AMOUNT, 1, MOST_AMOUNT // 2), come_in(1, MOST_AMOUNT, 0, MOST_AMOUNT // 3)]
        calls += [pour(turn % 2, 1 - turn % 2, MOST_AMOUNT - 4001 * turn) for turn in range(MOST_EVENTS - 2)]
        self.check(calls, source)

    def test_to_and_fro_one_grain(self):
        calls = [start(2), come_in(0, MOST_AMOUNT, 1, MOST_AMOUNT), come_in(1, MOST_AMOUNT, 0, 0)]
        calls += [pour(turn % 2, 1 - turn % 2, 1) for turn in range(MOST_EVENTS - 2)]
        self.assertEqual(bounds(calls, [1, 2]), [(0, MOST_AMOUNT), (0, 127)])

    def test_only_comings_in(self):
        source = random.Random(114)
        self.check(drawn(source, range(32), MOST_EVENTS, MOST_AMOUNT, 100), source)

    def test_asked_all_along(self):
        source = random.Random(115)
        calls = [start(32)]
        for call in drawn(source, range(32), 149, MOST_AMOUNT, 25)[1:]:
            calls.extend([call, most(source.getrandbits(32)) if source.randrange(2) else least(source.getrandbits(32))])
        given = told(*calls)
        self.assertEqual(given[1::2], list(range(149)))
        self.assertGreaterEqual(min(given), 0)


if __name__ == "__main__":
    unittest.main()
