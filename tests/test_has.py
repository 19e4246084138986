"""Point 4: has."""

import unittest

from calls import BIGGEST, MOST_AMOUNT, MOST_EVENTS, check_refused, come_in, full, has, pour, start, told, told_after


def held(calls, tanks):
    return told_after(calls, *[has(tank) for tank in range(tanks)])


class HowMany(unittest.TestCase):
    def test_new_tanks_are_empty(self):
        for tanks in (1, 2, 31, 32):
            self.assertEqual(held([start(tanks)], tanks), [0] * tanks)

    def test_after_comings_in(self):
        calls = [start(3), come_in(0, 5, 1, 2), come_in(2, 7), come_in(0, 1)]
        self.assertEqual(held(calls, 3), [6, 0, 7])

    def test_after_pourings(self):
        calls = [start(3), come_in(0, 9, 3, 5), pour(0, 1, 4), pour(1, 2, 1), pour(1, 0, 2)]
        self.assertEqual(held(calls, 3), [7, 1, 1])

    def test_after_each_of_several(self):
        calls = [start(2), has(0), come_in(0, 5), has(0), pour(0, 1, 5), has(0), has(1), come_in(0, 2), has(0), has(0)]
        self.assertEqual(told(*calls), [0, 0, 0, 5, 1, 0, 5, 2, 2, 2])

    def test_the_marked_ones_count_like_the_others(self):
        for few, many in ((0, 0), (0, 8), (8, 8), (3, 5)):
            self.assertEqual(held([start(2), come_in(1, 8, few, many), pour(1, 0, 3)], 2), [3, 5])

    def test_after_refused_calls(self):
        calls = [start(2), come_in(0, 5), come_in(0, 0), come_in(2, 1), pour(0, 1, 6), pour(0, 0, 1), pour(0, 2, 1),
                 start(0)]
        self.assertEqual(held(calls, 2), [5, 0])

    def test_after_another_start(self):
        self.assertEqual(held([start(2), come_in(0, 5), start(3)], 3), [0, 0, 0])

    def test_more_than_may_come_in_at_once(self):
        calls = [start(2)] + [come_in(0, MOST_AMOUNT)] * 255 + [pour(0, 1, 255 * MOST_AMOUNT - 1)]
        self.assertEqual(held(calls, 2), [1, 255 * MOST_AMOUNT - 1])

    def test_thirty_two_tanks(self):
        calls = [start(32)] + [come_in(tank, tank + 1) for tank in range(32)]
        self.assertEqual(held(calls, 32), list(range(1, 33)))

    def test_when_no_event_is_left(self):
        self.assertEqual(held(full(), 3), [128, 128, 0])


class NoSuchTank(unittest.TestCase):
    def test_refused(self):
        for tank in (2, 3, 31, 32, BIGGEST):
            with self.subTest(tank=tank):
                check_refused(self, [start(2), come_in(0, 7, 1, 2), come_in(1, 5)], has(tank), -22, [7, 5], 2)

    def test_one_tank(self):
        self.assertEqual(told(start(1), has(0), has(1)), [0, 0, -22])

    def test_thirty_two_tanks(self):
        self.assertEqual(told(start(32), has(31), has(32), has(BIGGEST)), [0, 0, -22, -22])

    def test_after_a_start_with_fewer_tanks(self):
        self.assertEqual(told(start(3), has(2), start(2), has(2), start(33), has(2)), [0, 0, 0, -22, -22, -22])


class ChangesNothing(unittest.TestCase):
    def test_counts_as_no_event(self):
        calls = [start(2), come_in(0, 5), has(0), has(1), has(2), pour(0, 1, 1), has(0), come_in(0, 1)]
        self.assertEqual(told(*calls), [0, 0, 5, 0, -22, 1, 4, 2])

    def test_leaves_the_last_event_free(self):
        calls = full()[:-1] + [has(0)] * 20 + [pour(0, 1, 1), pour(0, 1, 1)]
        self.assertEqual(told(*calls)[-3:], [129, MOST_EVENTS - 1, -28])


if __name__ == "__main__":
    unittest.main()
