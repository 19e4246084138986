"""Point 1: start."""

import unittest

from calls import (
    BIGGEST, MOST_EVENTS, bounds, check_grains, check_refused, come_in, every_set, full, pour, start, told)


class Range(unittest.TestCase):
    def test_no_tank_is_refused(self):
        self.assertEqual(told(start(0)), [-22])

    def test_one_tank(self):
        self.assertEqual(told(start(1), come_in(0, 1), come_in(1, 1)), [0, 0, -22])

    def test_two_tanks(self):
        self.assertEqual(told(start(2), come_in(1, 1), come_in(2, 1)), [0, 0, -22])

    def test_thirty_two_tanks(self):
        self.assertEqual(told(start(32), come_in(31, 1), come_in(32, 1)), [0, 0, -22])

    def test_thirty_three_tanks_are_refused(self):
        self.assertEqual(told(start(33)), [-22])

    def test_the_biggest_number_is_refused(self):
        self.assertEqual(told(start(BIGGEST)), [-22])

    def test_each_number_that_is_allowed(self):
        for tanks in range(1, 33):
            with self.subTest(tanks=tanks):
                calls = [start(tanks)] + [come_in(tank, 1) for tank in range(tanks + 1)]
                self.assertEqual(told(*calls), [0] + list(range(tanks)) + [-22])

    def test_all_tanks_are_empty(self):
        calls = [start(32)]
        for tank in range(32):
            with self.subTest(tank=tank):
                check_grains(self, calls, tank, (tank + 1) % 32, 0, 0)

    def test_refused_till_one_is_answered_0(self):
        calls = [start(0), start(33), start(BIGGEST), start(2), come_in(1, 1)]
        self.assertEqual(told(*calls), [-22, -22, -22, 0, 0])


class Again(unittest.TestCase):
    used = [start(3), come_in(0, 7, 1, 2), come_in(1, 5), pour(0, 2, 3)]

    def test_begins_anew(self):
        calls = self.used + [start(3)]
        self.assertEqual(told(*calls), [0, 0, 1, 2, 0])
        for tank in range(3):
            with self.subTest(tank=tank):
                check_grains(self, calls, tank, (tank + 1) % 3, 0, 0)

    def test_begins_anew_with_fewer_tanks(self):
        self.assertEqual(told(*self.used, start(1), come_in(1, 1), come_in(0, 1))[4:], [0, -22, 0])

    def test_begins_anew_with_more_tanks(self):
        self.assertEqual(told(*self.used, start(4), come_in(3, 1), come_in(4, 1))[4:], [0, 0, -22])

    def test_begins_anew_when_full(self):
        calls = full() + [come_in(0, 1), start(2)] + [come_in(0, 1) for _ in range(40)]
        self.assertEqual(told(*calls)[MOST_EVENTS + 1:], [-28, 0] + list(range(40)))

    def test_as_many_events_as_ever(self):
        calls = full()[:41] + [start(2)] + [come_in(0, 1) for _ in range(MOST_EVENTS + 1)]
        self.assertEqual(told(*calls)[41:], [0] + list(range(MOST_EVENTS)) + [-28])

    def test_nothing_is_marked_any_more(self):
        for tanks in (2, 3, 4):
            calls = self.used + [start(tanks)]
            with self.subTest(tanks=tanks):
                self.assertEqual(bounds(calls, every_set(tanks)), [(0, 0)] * (1 << tanks))
                calls = calls + [come_in(1, 4, 1, 3)]
                due = [(1, 3) if tank_set >> 1 & 1 else (0, 0) for tank_set in every_set(tanks)]
                self.assertEqual(bounds(calls, every_set(tanks)), due)

    def test_a_refused_one_leaves_all_as_it_was(self):
        for tanks in (0, 33, BIGGEST):
            with self.subTest(tanks=tanks):
                check_refused(self, self.used, start(tanks), -22, [4, 5, 3], 3)

    def test_a_refused_one_leaves_all_as_it_was_when_full(self):
        for tanks in (0, 33, BIGGEST):
            with self.subTest(tanks=tanks):
                check_refused(self, full(), start(tanks), -22, [128, 128, 0], MOST_EVENTS)


if __name__ == "__main__":
    unittest.main()
