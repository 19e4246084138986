"""What holds, a to d, at drawn lists of calls, small ones and big ones."""

import random
import unittest

from calls import (
    MOST_AMOUNT, bounds, by_courses, drawn, every_set, has, least, marked_in, most, pour, start, tanks_of, told_after)

# How many tanks, events, the greatest amount that comes in, and how many in a hundred events are comings in.
SHAPES = (
    (1, 5, 9, 100), (2, 12, 6, 30), (3, 20, 4, 25), (4, 40, 100, 30), (6, 80, MOST_AMOUNT, 20), (8, 240, 1000, 10),
    (2, 240, MOST_AMOUNT, 5), (3, 240, MOST_AMOUNT, 40), (16, 200, MOST_AMOUNT, 15), (32, 90, 50, 40),
    (32, 220, MOST_AMOUNT, 20), (32, 220, 9, 40))


def shapes(seed, times):
    """Drawn lists of each shape, with the source they are drawn from."""
    source = random.Random(seed)
    for _ in range(times):
        for tanks, events, greatest, comings in SHAPES:
            yield source, tanks, drawn(source, range(tanks), events, greatest, comings)


def drawn_sets(source, tanks, times):
    return [source.getrandbits(tanks) for _ in range(times)]


class WhateverLiesBetween(unittest.TestCase):
    def test_each_number_between_least_and_most_may_be(self):
        source = random.Random(11)
        for _ in range(200):
            tanks = source.randint(1, 4)
            calls = drawn(source, range(tanks), 9, 4, 35)
            rows = by_courses(calls)
            for tank_set, (few, many) in enumerate(bounds(calls, every_set(tanks))):
                numbers = sorted({marked_in(row, tank_set) for row in rows})
                self.assertEqual(numbers, list(range(few, many + 1)), (calls, tank_set))

    def test_never_below_none_nor_above_what_is_there(self):
        for source, tanks, calls in shapes(12, 3):
            held = told_after(calls, *[has(tank) for tank in range(tanks)])
            sets = drawn_sets(source, tanks, 20)
            for tank_set, (few, many) in zip(sets, bounds(calls, sets)):
                self.assertLessEqual(0, few, (calls, tank_set))
                self.assertLessEqual(few, many, (calls, tank_set))
                self.assertLessEqual(many, marked_in(held, tank_set), (calls, tank_set))

    def test_what_drawn_courses_bring_lies_between(self):
        for source, tanks, calls in shapes(13, 2):
            sets = drawn_sets(source, tanks, 12)
            for tank_set, (few, many) in zip(sets, bounds(calls, sets)):
                for way in ("any", "into", "out"):
                    number = marked_in(drawn_course(source, calls, tank_set, way), tank_set)
                    self.assertLessEqual(few, number, (calls, tank_set, way))
                    self.assertLessEqual(number, many, (calls, tank_set, way))

    def test_one_more_marked_leaves_no_gap(self):
        """Of all comings in it is told how many are marked; then of one of them one more is."""
        for source, tanks, calls in shapes(14, 3):
            known = [settled(source, call) for call in calls]
            places = [place for place, call in enumerate(known) if call[0] == 1 and call[3] < call[2]]
            if not places:
                continue
            place = source.choice(places)
            further = list(known)
            further[place] = known[place][:3] + [known[place][3] + 1] * 2
            sets = drawn_sets(source, tanks, 12)
            for before, after in zip(bounds(known, sets), bounds(further, sets)):
                for side in (0, 1):
                    self.assertIn(after[side] - before[side], (0, 1), calls)


def settled(source, call):
    return call[:3] + [source.randint(call[3], call[4])] * 2 if call[0] == 1 else call


def drawn_course(source, calls, tank_set, way):
    """How many marked grains are in each tank by one course; it may do what it can to fill the set or empty it."""
    grains = [0] * calls[0][1]
    marked = list(grains)
    for call in calls[1:]:
        goal = call[1] if call[0] == 1 else call[2]
        inside = tank_set >> goal & 1
        if call[0] == 1:
            few, many = call[3:]
        else:
            origin, amount = call[1], call[3]
            few = max(0, amount - (grains[origin] - marked[origin]))
            many = min(amount, marked[origin])
        if way == "any":
            number = source.choice([few, many, source.randint(few, many)])
        elif call[0] == 1:
            number = many if way == "into" else few
        else:
            number = many if inside == (way == "into") else few
        if call[0] == 1:
            grains[goal] += call[2]
        else:
            grains[origin] -= amount
            marked[origin] -= number
            grains[goal] += amount
        marked[goal] += number
    return marked


class TwoSets(unittest.TestCase):
    def test_both_in_one_and_what_they_have_in_common(self):
        for source, tanks, calls in shapes(21, 4):
            ones, others = drawn_sets(source, tanks, 5), drawn_sets(source, tanks, 5)
            for one, other in zip(ones, others):
                first, second, both, common = bounds(calls, [one, other, one | other, one & other])
                self.assertGreaterEqual(first[1] + second[1], both[1] + common[1], (calls, one, other))
                self.assertLessEqual(first[0] + second[0], both[0] + common[0], (calls, one, other))

    def test_all_pairs_of_a_few_tanks(self):
        source = random.Random(22)
        for events, greatest in ((8, 3), (20, 10), (60, 1000), (200, MOST_AMOUNT)):
            calls = drawn(source, range(4), events, greatest, 25)
            given = bounds(calls, every_set(4))
            for one in every_set(4):
                for other in every_set(4):
                    both, common = given[one | other], given[one & other]
                    self.assertGreaterEqual(given[one][1] + given[other][1], both[1] + common[1], (calls, one, other))
                    self.assertLessEqual(given[one][0] + given[other][0], both[0] + common[0], (calls, one, other))

    def test_a_set_and_all_the_others(self):
        """The most of a set and the least of all other tanks can't be more than all that may be marked."""
        for source, tanks, calls in shapes(23, 2):
            came = [call for call in calls if call[0] == 1]
            fewest, greatest = sum(call[3] for call in came), sum(call[4] for call in came)
            for tank_set in drawn_sets(source, tanks, 8):
                inside, outside = bounds(calls, [tank_set, (1 << tanks) - 1 - tank_set])
                self.assertLessEqual(inside[1] + outside[0], greatest)
                self.assertGreaterEqual(inside[1] + outside[0], fewest)


class WithinASet(unittest.TestCase):
    def test_poured_from_one_tank_of_it_to_another_or_outside_of_it(self):
        for source, tanks, calls in shapes(31, 4):
            held = told_after(calls, *[has(tank) for tank in range(tanks)])
            for tank_set in drawn_sets(source, tanks, 10):
                pours = [(origin, goal) for origin in range(tanks) for goal in range(tanks)
                         if origin != goal and held[origin] > 0 and (tank_set >> origin ^ tank_set >> goal) & 1 == 0]
                if not pours:
                    continue
                origin, goal = source.choice(pours)
                amount = source.choice([1, held[origin], source.randint(1, held[origin])])
                further = calls + [pour(origin, goal, amount)]
                self.assertEqual(bounds(further, [tank_set]), bounds(calls, [tank_set]), (further, tank_set))

    def test_asked_ahead_of_and_behind_each_pouring(self):
        source = random.Random(32)
        for _ in range(40):
            tanks = source.randint(2, 6)
            calls = drawn(source, range(tanks), 60, 50, 20)
            tank_set = source.getrandbits(tanks)
            asked = []
            for call in calls:
                asked.extend([call, least(tank_set), most(tank_set)])
            given = told_after([], *asked)
            for place, call in enumerate(calls):
                if call[0] == 2 and (tank_set >> call[1] ^ tank_set >> call[2]) & 1 == 0:
                    self.assertEqual(given[3 * place + 1:3 * place + 3], given[3 * place - 2:3 * place], asked)

    def test_of_all_tanks_together(self):
        for source, tanks, calls in shapes(33, 4):
            came = [call for call in calls if call[0] == 1]
            due = (sum(call[3] for call in came), sum(call[4] for call in came))
            self.assertEqual(bounds(calls, [(1 << tanks) - 1, 0]), [due, (0, 0)], calls)


def may_be_reached(calls):
    """Of each tank: whether a row of pourings leads there, as d tells it."""
    grains = [0] * calls[0][1]
    reached = [False] * len(grains)
    for call in calls[1:]:
        if call[0] == 1:
            grains[call[1]] += call[2]
            reached[call[1]] = reached[call[1]] or call[4] > 0
        else:
            _, origin, goal, amount = call
            grains[origin] -= amount
            grains[goal] += amount
            reached[goal] = reached[goal] or reached[origin]
            reached[origin] = reached[origin] and grains[origin] > 0
    return reached


class SomeMarkedInATank(unittest.TestCase):
    def check(self, calls):
        tanks = calls[0][1]
        reached = may_be_reached(calls)
        given = bounds(calls, [1 << tank for tank in range(tanks)])
        self.assertEqual([many > 0 for _, many in given], reached, calls)
        return reached

    def test_at_every_shape(self):
        for _, _, calls in shapes(41, 5):
            self.check(calls)

    def test_few_of_the_comings_in_may_be_marked(self):
        source = random.Random(42)
        seen = []
        for _, tanks, calls in shapes(43, 5):
            calls = [call[:3] + [0, 0] if call[0] == 1 and source.randrange(8) else call for call in calls]
            seen.extend(self.check(calls))
        self.assertGreater(seen.count(True), 100)
        self.assertGreater(seen.count(False), 100)

    def test_a_set_may_hold_some_just_if_one_of_its_tanks_may(self):
        source = random.Random(44)
        for _, tanks, calls in shapes(45, 2):
            calls = [call[:3] + [0, 0] if call[0] == 1 and source.randrange(8) else call for call in calls]
            reached = may_be_reached(calls)
            sets = drawn_sets(source, tanks, 8)
            for tank_set, (_, many) in zip(sets, bounds(calls, sets)):
                self.assertEqual(many > 0, any(reached[tank] for tank in tanks_of(tank_set)), (calls, tank_set))

    def test_nothing_came_in(self):
        self.assertEqual(self.check([start(4)]), [False] * 4)


if __name__ == "__main__":
    unittest.main()
