"""Point 5: most and least."""

import unittest

from calls import (
    BIGGEST, MOST_AMOUNT, MOST_EVENTS, bounds, check_refused, come_in, every_set, full, has, least, most, pour, start,
    told, told_after)


class Case(unittest.TestCase):
    def check(self, calls, due):
        """due: by set of the tanks, from the empty one on, its least and its most."""
        self.assertEqual(bounds(calls, every_set(calls[0][1])), due)

    def check_one(self, calls, tank_set, few, many):
        self.assertEqual(bounds(calls, [tank_set]), [(few, many)])


class NoSuchTank(Case):
    def test_refused(self):
        calls = [start(2), come_in(0, 7, 1, 2), come_in(1, 5, 3, 4)]
        for tank_set in (4, 5, 6, 7, 8, 12, 1 << 31, BIGGEST - 3, BIGGEST):
            for ask in (most, least):
                with self.subTest(tank_set=tank_set, number=ask(0)[0]):
                    check_refused(self, calls, ask(tank_set), -22, [7, 5], 2)

    def test_the_first_bit_too_many(self):
        for tanks in range(1, 32):
            above, all_there = 1 << tanks, (1 << tanks) - 1
            numbers = told(start(tanks), most(above), least(above), most(all_there), least(all_there))
            self.assertEqual(numbers, [0, -22, -22, 0, 0])

    def test_all_bits_but_those_of_the_tanks(self):
        self.assertEqual(told(start(31), most(BIGGEST), least(BIGGEST), most(1 << 31)), [0, -22, -22, -22])

    def test_of_thirty_two_tanks_each_set_is_there(self):
        numbers = told(start(32), most(BIGGEST), least(BIGGEST), most(1 << 31), least(1 << 31))
        self.assertEqual(numbers, [0, 0, 0, 0, 0])

    def test_when_no_event_is_left(self):
        for tank_set in (8, 9, 15, BIGGEST):
            for ask in (most, least):
                check_refused(self, full(), ask(tank_set), -22, [128, 128, 0], MOST_EVENTS)

    def test_after_a_start_with_fewer_tanks(self):
        self.assertEqual(told(start(3), most(4), start(2), most(4), least(4), most(3)), [0, 0, 0, -22, -22, 0])


class Sets(Case):
    calls = [start(3), come_in(0, 10, 2, 5), come_in(1, 8, 8, 8), come_in(2, 6, 0, 1)]

    def test_before_anything_came_in(self):
        for tanks in (1, 2, 5):
            self.check([start(tanks)], [(0, 0)] * (1 << tanks))

    def test_of_none(self):
        self.check_one(self.calls, 0, 0, 0)

    def test_of_one(self):
        self.assertEqual(bounds(self.calls, [1, 2, 4]), [(2, 5), (8, 8), (0, 1)])

    def test_of_several(self):
        self.assertEqual(bounds(self.calls, [3, 5, 6]), [(10, 13), (2, 6), (8, 9)])

    def test_of_all(self):
        self.check_one(self.calls, 7, 10, 14)

    def test_of_all_after_pourings(self):
        calls = self.calls + [pour(0, 1, 7), pour(1, 2, 15), pour(2, 0, 21)]
        self.check_one(calls, 7, 10, 14)
        self.check_one(calls, 0, 0, 0)

    def test_one_tank_alone(self):
        self.check([start(1), come_in(0, 4, 1, 2), come_in(0, 3, 0, 3)], [(0, 0), (1, 5)])

    def test_several_comings_in_add_up(self):
        calls = [start(2), come_in(1, 4, 1, 2), come_in(1, 5, 3, 4), come_in(1, 1)]
        self.check(calls, [(0, 0), (0, 0), (4, 6), (4, 6)])

    def test_each_of_thirty_two_tanks(self):
        calls = [start(32)] + [come_in(tank, 40, tank, tank + 7) for tank in range(32)]
        self.assertEqual(bounds(calls, [1 << tank for tank in range(32)]), [(tank, tank + 7) for tank in range(32)])
        self.check_one(calls, BIGGEST, 496, 720)
        self.check_one(calls, 0x80000001, 31, 45)
        self.check_one(calls, BIGGEST - 1, 496, 713)


class Asked(Case):
    def test_between_events(self):
        calls = [start(2), come_in(0, 4, 2, 3), most(1), least(1), pour(0, 1, 3), most(1), least(1), most(2), least(2),
                 come_in(0, 1, 1, 1), most(1), least(1), pour(1, 0, 3), most(1), least(1), most(2)]
        self.assertEqual(told(*calls), [0, 0, 3, 2, 1, 1, 0, 3, 1, 2, 2, 1, 3, 4, 3, 0])

    def test_several_times_in_a_row(self):
        calls = [start(2), come_in(0, 10, 2, 5), pour(0, 1, 6)]
        self.assertEqual(told_after(calls, *[most(2)] * 20), [5] * 20)
        self.assertEqual(told_after(calls, *[least(2)] * 20), [0] * 20)
        self.assertEqual(told_after(calls, *[most(1), least(3), least(1), most(2), most(3)] * 9), [4, 2, 0, 5, 5] * 9)

    def test_change_nothing_and_count_as_no_event(self):
        calls = [start(2), most(3), come_in(0, 9, 1, 3), most(1), least(2), most(4), pour(0, 1, 9), least(2), has(0),
                 has(1), least(3), come_in(0, 1)]
        self.assertEqual(told(*calls), [0, 0, 0, 3, 0, -22, 1, 1, 0, 9, 1, 2])

    def test_leave_the_last_event_free(self):
        calls = full()[:-1] + [most(7), least(7)] * 15 + [pour(0, 1, 1), most(7), pour(0, 1, 1)]
        self.assertEqual(told(*calls)[-4:], [0, MOST_EVENTS - 1, 0, -28])

    def test_refused_events_change_nothing(self):
        calls = [start(2), come_in(0, 4, 2, 3), pour(0, 1, 5), come_in(0, 4, 5, 4), come_in(0, 4, 1, 5), pour(1, 0, 1),
                 come_in(0, MOST_AMOUNT + 1, 1, 1), come_in(2, 1, 1, 1), pour(0, 2, 1), pour(0, 0, 1), pour(0, 1, 0),
                 start(40)]
        self.check(calls, [(0, 0), (2, 3), (0, 0), (2, 3)])

    def test_an_event_too_many_changes_nothing(self):
        calls = [start(2)] + [come_in(0, 2, 1, 2)] * MOST_EVENTS + [come_in(0, 2, 2, 2), pour(0, 1, 500)]
        self.check(calls, [(0, 0), (256, 512), (0, 0), (256, 512)])


class WhereItUsuallyBreaks(Case):
    def test_emptied_and_filled_anew(self):
        calls = [start(2), come_in(0, 5, 2, 4), pour(0, 1, 5), come_in(0, 5, 0, 0)]
        self.check(calls, [(0, 0), (0, 0), (2, 4), (2, 4)])

    def test_emptied_and_filled_anew_by_pouring(self):
        calls = [start(3), come_in(0, 5, 5, 5), come_in(1, 5, 0, 1), pour(0, 2, 5), pour(1, 0, 4)]
        self.assertEqual(bounds(calls, [1, 2, 4, 3]), [(0, 1), (0, 1), (5, 5), (0, 1)])

    def test_emptied_in_two_pourings_and_filled_anew(self):
        calls = [start(3), come_in(0, 4, 3, 3), pour(0, 1, 2), pour(0, 2, 2), come_in(0, 2, 0, 1), pour(0, 1, 1)]
        self.assertEqual(bounds(calls, [1, 2, 4, 6]), [(0, 1), (1, 3), (1, 2), (3, 4)])

    def test_not_quite_emptied(self):
        calls = [start(2), come_in(0, 5, 2, 4), pour(0, 1, 4), come_in(0, 5, 0, 0), pour(0, 1, 5)]
        self.check(calls, [(0, 0), (0, 1), (1, 4), (2, 4)])

    def test_to_and_fro_all(self):
        calls = [start(2), come_in(0, 5, 2, 4)] + [pour(turn % 2, 1 - turn % 2, 5) for turn in range(7)]
        self.check(calls, [(0, 0), (0, 0), (2, 4), (2, 4)])

    def test_to_and_fro_one(self):
        calls = [start(2), come_in(0, 5, 2, 4), come_in(1, 5, 0, 0)] + [pour(0, 1, 1), pour(1, 0, 1)] * 3
        self.check(calls, [(0, 0), (0, 4), (0, 3), (2, 4)])

    def test_to_and_fro_does_not_count_twice(self):
        calls = [start(2), come_in(0, 6, 3, 3)] + [pour(0, 1, 3), pour(1, 0, 3)] * 40 + [pour(0, 1, 2)]
        self.check(calls, [(0, 0), (1, 3), (0, 2), (3, 3)])

    def test_must_go_along(self):
        calls = [start(2), come_in(0, 10, 8, 8), pour(0, 1, 5)]
        self.check(calls, [(0, 0), (3, 5), (3, 5), (8, 8)])

    def test_must_go_along_twice(self):
        calls = [start(3), come_in(0, 10, 8, 9), pour(0, 1, 7), pour(1, 2, 6)]
        self.check(calls, [(0, 0), (1, 3), (0, 1), (2, 4), (4, 6), (7, 9), (5, 7), (8, 9)])

    def test_the_others_are_just_enough(self):
        calls = [start(2), come_in(0, 10, 4, 5), pour(0, 1, 5)]
        self.check(calls, [(0, 0), (0, 5), (0, 5), (4, 5)])

    def test_two_ways_that_need_the_same_grains(self):
        calls = [start(4), come_in(0, 6, 1, 2), pour(0, 1, 2), pour(0, 2, 2)]
        self.assertEqual(bounds(calls, [2, 4, 6, 7]), [(0, 2), (0, 2), (0, 2), (1, 2)])

    def test_two_ways_that_need_the_same_room(self):
        calls = [start(4), come_in(0, 5, 5, 5), come_in(1, 5, 5, 5), come_in(2, 5, 0, 0), pour(0, 2, 3), pour(1, 2, 3),
                 pour(2, 3, 4)]
        self.assertEqual(bounds(calls, [8, 4, 12]), [(0, 4), (2, 6), (6, 6)])

    def test_two_ways_that_are_both_needed(self):
        # Tank 1 and tank 2 hand on one grain each: both marked ones get to tank 3 by different ways alone.
        calls = [start(4), come_in(0, 4, 2, 2), pour(0, 1, 2), pour(0, 2, 2), pour(1, 3, 1), pour(2, 3, 1)]
        self.assertEqual(bounds(calls, [8, 6]), [(0, 2), (0, 2)])

    def test_a_pouring_of_all(self):
        calls = [start(2), come_in(0, 10, 3, 6), come_in(1, 2, 1, 1), pour(0, 1, 10)]
        self.check(calls, [(0, 0), (0, 0), (4, 7), (4, 7)])

    def test_none_may_be_marked(self):
        calls = [start(3), come_in(0, 10, 0, 0), pour(0, 1, 4), pour(1, 2, 4), come_in(2, 1, 0, 0)]
        self.check(calls, [(0, 0)] * 8)

    def test_none_of_one_coming_in_may_be_marked(self):
        calls = [start(2), come_in(0, 3, 0, 0), come_in(0, 2, 2, 2), pour(0, 1, 4)]
        self.check(calls, [(0, 0), (0, 1), (1, 2), (2, 2)])

    def test_all_must_be_marked(self):
        calls = [start(2), come_in(0, 10, 10, 10), pour(0, 1, 4)]
        self.check(calls, [(0, 0), (6, 6), (4, 4), (10, 10)])

    def test_marked_in_a_row_of_thirty_two_tanks(self):
        calls = [start(32), come_in(0, 5, 3, 4)] + [come_in(tank, 1, 0, 0) for tank in range(1, 32)]
        calls = calls + [pour(tank, tank + 1, 2) for tank in range(31)]
        self.assertEqual(bounds(calls, [1, 2, 1 << 31, BIGGEST, 0, BIGGEST - 1]),
                         [(1, 3), (0, 1), (0, 2), (3, 4), (0, 0), (0, 2)])

    def test_the_greatest_amounts(self):
        half = MOST_AMOUNT // 2
        calls = [start(2)] + [come_in(0, MOST_AMOUNT, half, MOST_AMOUNT)] * 200 + [pour(0, 1, 150 * MOST_AMOUNT)]
        due = [(0, 0), (0, 50 * MOST_AMOUNT), (100 * half, 150 * MOST_AMOUNT), (200 * half, 200 * MOST_AMOUNT)]
        self.check(calls, due)


if __name__ == "__main__":
    unittest.main()
