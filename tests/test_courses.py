"""Point 5 at small lists: most and least are the greatest and the least number that some course brings about.

The courses are gone through one by one, as the document tells them.
"""

import itertools
import random
import unittest

from calls import bounds, by_courses, by_sets, come_in, drawn, every_set, least, marked_in, most, pour, start, told


def due(calls):
    """Of each set of the tanks: the least and the greatest number of marked grains in it by some course."""
    rows = by_courses(calls)
    numbers = [[marked_in(row, tank_set) for row in rows] for tank_set in every_set(calls[0][1])]
    return [(min(held), max(held)) for held in numbers]


class TheCoursesThemselves(unittest.TestCase):
    """That what the program is held against is what the document tells."""

    def test_of_a_coming_in(self):
        self.assertEqual(by_courses([start(2), come_in(1, 5, 2, 4)]), {(0, 2), (0, 3), (0, 4)})

    def test_no_more_marked_ones_than_are_there(self):
        self.assertEqual(by_courses([start(2), come_in(0, 5, 2, 2), pour(0, 1, 3)]), {(2, 0), (1, 1), (0, 2)})

    def test_no_more_others_than_are_there(self):
        self.assertEqual(by_courses([start(2), come_in(0, 5, 4, 4), pour(0, 1, 3)]), {(2, 2), (1, 3)})

    def test_no_more_than_are_poured(self):
        self.assertEqual(by_courses([start(2), come_in(0, 5, 3, 3), pour(0, 1, 1)]), {(3, 0), (2, 1)})


class DrawnLists(unittest.TestCase):
    def check(self, seed, lists, tanks, events, greatest, comings):
        source = random.Random(seed)
        for _ in range(lists):
            calls = drawn(source, range(tanks), events, greatest, comings)
            given = bounds(calls, every_set(tanks))
            wanted = due(calls)
            self.assertEqual(given, wanted, calls)
            self.assertEqual(by_sets(calls), wanted, calls)

    def test_one_tank(self):
        self.check(1, 50, 1, 4, 9, 100)

    def test_two_tanks(self):
        self.check(2, 400, 2, 10, 5, 30)

    def test_two_tanks_mostly_pourings(self):
        self.check(3, 300, 2, 14, 9, 12)

    def test_three_tanks(self):
        self.check(4, 400, 3, 10, 4, 30)

    def test_three_tanks_mostly_pourings(self):
        self.check(5, 300, 3, 14, 5, 12)

    def test_four_tanks(self):
        self.check(6, 200, 4, 10, 3, 30)

    def test_five_tanks(self):
        self.check(7, 40, 5, 11, 2, 35)

    def test_single_grains(self):
        self.check(8, 200, 4, 16, 1, 40)


class EveryShortList(unittest.TestCase):
    def test_two_tanks_two_comings_in_three_pourings(self):
        """Into tank 0 come 3 grains, into tank 1 come 2; then every row of three pourings, refused ones too."""
        pourings = [pour(source, 1 - source, amount) for source in (0, 1) for amount in (1, 2, 3)]
        for first in ((0, 0), (0, 1), (1, 2), (2, 3), (3, 3)):
            for second in ((0, 0), (0, 2), (1, 1), (2, 2)):
                for three in itertools.product(pourings, repeat=3):
                    calls = [start(2), come_in(0, 3, *first), come_in(1, 2, *second), *three]
                    numbers = told(*calls, least(1), most(1), least(2), most(2))
                    done = [call for call, number in zip(calls, numbers) if number >= 0]
                    wanted = due(done)
                    self.assertEqual(numbers[-4:], [*wanted[1], *wanted[2]], calls)


class AskedAllAlong(unittest.TestCase):
    def test_behind_each_event(self):
        source = random.Random(9)
        for _ in range(25):
            calls = drawn(source, range(3), 12, 4, 30)
            asked, wanted = [], []
            for place, call in enumerate(calls):
                asked.append(call)
                wanted.append(max(place - 1, 0))
                for tank_set, (few, many) in enumerate(due(calls[:place + 1])):
                    asked.extend([most(tank_set), least(tank_set)])
                    wanted.extend([many, few])
            self.assertEqual(told(*asked), wanted, calls)


if __name__ == "__main__":
    unittest.main()
