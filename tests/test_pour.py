"""Point 3: pour."""

import unittest

from calls import BIGGEST, MOST_AMOUNT, MOST_EVENTS, check_grains, check_refused, come_in, full, pour, start, told


class GoesWell(unittest.TestCase):
    def test_answers_how_many_there_were_before(self):
        calls = [start(2), come_in(0, 5), pour(0, 1, 2), pour(1, 0, 1), come_in(1, 1), pour(0, 1, 4)]
        self.assertEqual(told(*calls), [0, 0, 1, 2, 3, 4])

    def test_so_many_go_from_the_one_to_the_other(self):
        calls = [start(3), come_in(0, 9), come_in(1, 4), come_in(2, 6), pour(0, 1, 5)]
        check_grains(self, calls, 0, 2, 4, 4)
        check_grains(self, calls, 1, 2, 9, 4)
        check_grains(self, calls, 2, 0, 6, 4)

    def test_just_one_grain(self):
        calls = [start(2), come_in(0, 1, 1, 1), pour(0, 1, 1)]
        check_grains(self, calls, 0, 1, 0, 2)
        check_grains(self, calls, 1, 0, 1, 2)

    def test_to_and_fro(self):
        calls = [start(2), come_in(0, 9), pour(0, 1, 9), pour(1, 0, 4), pour(0, 1, 1)]
        self.assertEqual(told(*calls), [0, 0, 1, 2, 3])
        check_grains(self, calls, 0, 1, 3, 4)
        check_grains(self, calls, 1, 0, 6, 4)

    def test_emptied_and_filled_anew(self):
        calls = [start(2), come_in(0, 9, 0, 9), pour(0, 1, 9), pour(0, 1, 1), come_in(0, 3), pour(0, 1, 4),
                 pour(0, 1, 3)]
        self.assertEqual(told(*calls), [0, 0, 1, -33, 2, -33, 3])
        check_grains(self, calls, 0, 1, 0, 4)
        check_grains(self, calls, 1, 0, 12, 4)

    def test_emptied_and_filled_anew_by_pouring(self):
        calls = [start(3), come_in(0, 9), pour(0, 1, 9), pour(1, 2, 9), pour(2, 0, 5)]
        check_grains(self, calls, 0, 1, 5, 4)
        check_grains(self, calls, 1, 0, 0, 4)
        check_grains(self, calls, 2, 0, 4, 4)

    def test_more_than_may_come_in_at_once(self):
        calls = [start(2), come_in(0, MOST_AMOUNT), come_in(0, MOST_AMOUNT), pour(0, 1, 2 * MOST_AMOUNT)]
        self.assertEqual(told(*calls), [0, 0, 1, 2])
        check_grains(self, calls, 1, 0, 2 * MOST_AMOUNT, 3)

    def test_by_all_of_thirty_two_tanks(self):
        calls = [start(32), come_in(0, 3)] + [pour(tank, tank + 1, 3) for tank in range(31)]
        self.assertEqual(told(*calls), [0] + list(range(32)))
        check_grains(self, calls, 31, 0, 3, 32)
        check_grains(self, calls, 30, 0, 0, 32)


class WrongValue(unittest.TestCase):
    used = [start(2), come_in(0, 7, 1, 2), come_in(1, 5)]

    def refused(self, call):
        check_refused(self, self.used, call, -22, [7, 5], 2)

    def test_no_such_source(self):
        for source in (2, 3, 32, BIGGEST):
            with self.subTest(source=source):
                self.refused(pour(source, 0, 1))

    def test_no_such_goal(self):
        for goal in (2, 3, 32, BIGGEST):
            with self.subTest(goal=goal):
                self.refused(pour(0, goal, 1))

    def test_no_such_source_nor_goal(self):
        self.refused(pour(2, 3, 1))

    def test_no_such_tank_of_thirty_two(self):
        calls = [start(32), come_in(31, 2), pour(32, 31, 1), pour(31, 32, 1), pour(31, 0, 1)]
        self.assertEqual(told(*calls), [0, 0, -22, -22, 1])

    def test_source_is_goal(self):
        for tank in (0, 1):
            for amount in (1, 5):
                with self.subTest(tank=tank, amount=amount):
                    self.refused(pour(tank, tank, amount))

    def test_amount_0(self):
        self.refused(pour(0, 1, 0))

    def test_amount_0_of_an_empty_tank(self):
        self.assertEqual(told(start(2), pour(0, 1, 0)), [0, -22])

    def test_goes_ahead_of_too_few(self):
        for call in (pour(0, 0, 8), pour(0, 2, 8), pour(2, 0, 8), pour(0, 0, BIGGEST), pour(BIGGEST, BIGGEST, BIGGEST)):
            with self.subTest(call=call):
                self.refused(call)


class TooFew(unittest.TestCase):
    used = [start(3), come_in(0, 7, 1, 2), come_in(1, 5)]

    def test_one_too_few(self):
        check_refused(self, self.used, pour(0, 1, 8), -33, [7, 5, 0], 2)

    def test_just_enough(self):
        self.assertEqual(told(*self.used, pour(0, 1, 7))[-1], 2)

    def test_one_more_than_enough(self):
        self.assertEqual(told(*self.used, pour(0, 1, 6))[-1], 2)

    def test_enough_in_the_goal_alone(self):
        check_refused(self, self.used, pour(1, 0, 7), -33, [7, 5, 0], 2)

    def test_of_an_empty_tank(self):
        check_refused(self, self.used, pour(2, 0, 1), -33, [7, 5, 0], 2)

    def test_the_biggest_amount(self):
        check_refused(self, self.used, pour(0, 1, BIGGEST), -33, [7, 5, 0], 2)

    def test_an_amount_that_could_not_come_in(self):
        check_refused(self, self.used, pour(0, 1, MOST_AMOUNT + 1), -33, [7, 5, 0], 2)


class NoRoom(unittest.TestCase):
    def test_the_257th_pouring(self):
        calls = [start(2), come_in(0, 1)] + [pour(turn % 2, 1 - turn % 2, 1) for turn in range(MOST_EVENTS)]
        self.assertEqual(told(*calls), [0] + list(range(MOST_EVENTS)) + [-28])

    def test_comings_in_count_too(self):
        calls = [start(2)] + [come_in(0, 1) for _ in range(MOST_EVENTS)] + [pour(0, 1, 1)]
        self.assertEqual(told(*calls), [0] + list(range(MOST_EVENTS)) + [-28])

    def test_leaves_all_as_it_was(self):
        for amount in (1, 128):
            with self.subTest(amount=amount):
                check_refused(self, full(), pour(0, 1, amount), -28, [128, 128, 0], MOST_EVENTS)

    def test_each_wrong_value_goes_ahead(self):
        for call in (pour(3, 0, 1), pour(0, 3, 1), pour(0, 0, 1), pour(0, 1, 0), pour(0, 0, 129), pour(3, 3, 129)):
            with self.subTest(call=call):
                check_refused(self, full(), call, -22, [128, 128, 0], MOST_EVENTS)

    def test_too_few_goes_ahead(self):
        for call in (pour(0, 1, 129), pour(2, 0, 1), pour(0, 1, BIGGEST)):
            with self.subTest(call=call):
                check_refused(self, full(), call, -33, [128, 128, 0], MOST_EVENTS)


if __name__ == "__main__":
    unittest.main()
