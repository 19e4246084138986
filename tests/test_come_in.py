"""Point 2: in, which the interface calls come_in."""

import unittest

from calls import BIGGEST, MOST_AMOUNT, MOST_EVENTS, check_grains, check_refused, come_in, full, pour, start, told


class GoesWell(unittest.TestCase):
    def test_answers_how_many_there_were_before(self):
        calls = [start(2), come_in(0, 5, 1, 3), come_in(1, 5), pour(0, 1, 2), come_in(0, 9, 9, 9)]
        self.assertEqual(told(*calls), [0, 0, 1, 2, 3])

    def test_a_refusal_does_not_count(self):
        calls = [start(2), come_in(0, 5), come_in(0, 0), pour(1, 0, 1), come_in(0, 5)]
        self.assertEqual(told(*calls), [0, 0, -22, -33, 1])

    def test_so_many_grains_come_into_the_tank(self):
        calls = [start(3), come_in(1, 5, 2, 3)]
        check_grains(self, calls, 0, 1, 0, 1)
        check_grains(self, calls, 1, 0, 5, 1)
        check_grains(self, calls, 2, 0, 0, 1)

    def test_what_comes_into_one_tank_adds_up(self):
        calls = [start(2), come_in(0, 5, 0, 5), come_in(0, 7), come_in(0, 1)]
        check_grains(self, calls, 0, 1, 13, 3)

    def test_amounts_at_the_edge(self):
        for amount in (1, MOST_AMOUNT - 1, MOST_AMOUNT):
            with self.subTest(amount=amount):
                calls = [start(2), come_in(0, amount, 0, amount)]
                self.assertEqual(told(*calls), [0, 0])
                check_grains(self, calls, 0, 1, amount, 1)

    def test_a_tank_may_hold_more_than_comes_in_at_once(self):
        calls = [start(2)] + [come_in(0, MOST_AMOUNT) for _ in range(255)]
        self.assertEqual(told(*calls), [0] + list(range(255)))
        check_grains(self, calls, 0, 1, 255 * MOST_AMOUNT, 255)

    def test_marked_at_the_edge(self):
        for least, most in ((0, 0), (0, 1), (1, 1), (0, 10), (9, 10), (10, 10)):
            with self.subTest(least=least, most=most):
                self.assertEqual(told(start(1), come_in(0, 10, least, most)), [0, 0])

    def test_marked_at_the_edge_of_the_greatest_amount(self):
        calls = [start(1), come_in(0, MOST_AMOUNT, MOST_AMOUNT, MOST_AMOUNT)]
        self.assertEqual(told(*calls), [0, 0])


class WrongValue(unittest.TestCase):
    used = [start(2), come_in(0, 7, 1, 2), come_in(1, 5)]

    def refused(self, call):
        check_refused(self, self.used, call, -22, [7, 5], 2)

    def test_no_such_tank(self):
        for tank in (2, 3, 31, 32, BIGGEST):
            with self.subTest(tank=tank):
                self.refused(come_in(tank, 10, 1, 2))

    def test_no_such_tank_of_thirty_two(self):
        self.assertEqual(told(start(32), come_in(32, 1), come_in(31, 1)), [0, -22, 0])

    def test_amount_0(self):
        self.refused(come_in(0, 0, 0, 0))

    def test_amount_above_the_greatest(self):
        for amount in (MOST_AMOUNT + 1, BIGGEST):
            with self.subTest(amount=amount):
                self.refused(come_in(0, amount, 0, 0))

    def test_least_above_most(self):
        for least, most in ((1, 0), (6, 5), (10, 9), (11, 10), (BIGGEST, 10)):
            with self.subTest(least=least, most=most):
                self.refused(come_in(0, 10, least, most))

    def test_most_above_amount(self):
        for least, most in ((0, 11), (10, 11), (11, 11), (0, BIGGEST), (BIGGEST, BIGGEST)):
            with self.subTest(least=least, most=most):
                self.refused(come_in(0, 10, least, most))

    def test_most_above_the_greatest_amount(self):
        self.refused(come_in(0, MOST_AMOUNT, 0, MOST_AMOUNT + 1))

    def test_all_at_once(self):
        self.refused(come_in(BIGGEST, 0, BIGGEST, BIGGEST - 1))


class NoRoom(unittest.TestCase):
    def test_the_257th_coming_in(self):
        calls = [start(1)] + [come_in(0, 1) for _ in range(MOST_EVENTS + 1)]
        self.assertEqual(told(*calls), [0] + list(range(MOST_EVENTS)) + [-28])

    def test_pourings_count_too(self):
        self.assertEqual(told(*full(), come_in(0, 1)), [0] + list(range(MOST_EVENTS)) + [-28])

    def test_leaves_all_as_it_was(self):
        check_refused(self, full(), come_in(0, 10, 1, 2), -28, [128, 128, 0], MOST_EVENTS)

    def test_each_wrong_value_goes_ahead(self):
        wrong = (
            come_in(3, 1), come_in(0, 0), come_in(0, MOST_AMOUNT + 1), come_in(0, 10, 1, 0), come_in(0, 10, 0, 11))
        for call in wrong:
            with self.subTest(call=call):
                check_refused(self, full(), call, -22, [128, 128, 0], MOST_EVENTS)


if __name__ == "__main__":
    unittest.main()
