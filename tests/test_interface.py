"""The interface: answers(calls), its form, and that it keeps and changes nothing."""

import contextlib
import io
import pathlib
import unittest

from calls import MOST_EVENTS, come_in, full, has, least, most, pour, start
from markedgrains.desk import answers

README = pathlib.Path(__file__).resolve().parent.parent / "README.md"


class Unchanging(list):
    """A list that fails where it is to be changed, be it for a while alone."""

    def refuse(self, *args, **kwargs):
        raise AssertionError("what is handed in is changed")

    append = clear = extend = insert = pop = remove = reverse = sort = refuse
    __setitem__ = __delitem__ = __iadd__ = __imul__ = refuse


def flat(calls):
    return [value for call in calls for value in call]


MIXED = [
    0, 2, 1, 0, 10, 2, 5, 1, 2, 9, 0, 0, 2, 0, 1, 11, 2, 0, 1, 10, 0, 33, 2, 1, 0, 4, 3, 0, 4, 1, 5, 2,
    3, 2, 4, 4, 5, 7, 0, 1, 1, 0, 3, 3, 3, 5, 1]
MIXED_ANSWERS = [
    1, 0, 1, 0, 1, -22, 1, -33, 1, 1, 1, -22, 1, 2, 1, 4, 1, 4, 1, 0, 1, -22, 1, -22, 1, -22, 1, 0, 1, 0, 1, 3]


class Form(unittest.TestCase):
    def test_one_call(self):
        self.assertEqual(answers([0, 1]), [1, 0])

    def test_one_refused_call(self):
        self.assertEqual(answers([0, 0]), [1, -22])

    def test_several_calls_in_one_list(self):
        self.assertEqual(answers(MIXED), MIXED_ANSWERS)

    def test_values_that_look_like_calls(self):
        self.assertEqual(answers([0, 2, 1, 1, 1, 1, 1, 1, 1, 2, 2, 2, 2, 1, 0, 2]), [1, 0, 1, 0, 1, 1, 1, 2])
        self.assertEqual(answers([0, 6, 3, 3, 4, 4, 5, 5, 1, 5, 5, 5, 5, 3, 5, 4, 32]), [1, 0] * 5 + [1, 5, 1, 5])

    def test_the_example_of_the_readme(self):
        calls = [0, 2, 1, 0, 10, 2, 5, 2, 0, 1, 6, 2, 0, 1, 7, 3, 1, 4, 1, 5, 1, 4, 2, 5, 3, 4, 4]
        given = answers(calls)
        self.assertEqual(given, [1, 0, 1, 0, 1, 1, 1, -33, 1, 6, 1, 4, 1, 0, 1, 5, 1, 2, 1, -22])
        self.assertIn(f"answers({calls})\n# {given}\n", README.read_text(encoding="ascii"))

    def test_a_list_of_whole_numbers(self):
        given = answers(list(MIXED))
        self.assertIs(type(given), list)
        for number in given:
            self.assertIs(type(number), int)

    def test_three_hundred_calls(self):
        calls = full() + [come_in(0, 1)] * 20 + [pour(0, 1, 129)] * 20 + [start(0), start(2), come_in(1, 1)]
        self.assertEqual(len(calls), 300)
        numbers = [0] + list(range(MOST_EVENTS)) + [-28] * 20 + [-33] * 20 + [-22, 0, 0]
        self.assertEqual(answers(flat(calls)), flat([1, number] for number in numbers))

    def test_three_hundred_calls_that_mostly_ask(self):
        calls = [start(2), come_in(0, 5, 2, 4), pour(0, 1, 2)] + [has(0), most(1), least(1)] * 99
        self.assertEqual(len(calls), 300)
        self.assertEqual(answers(flat(calls)), [1, 0, 1, 0, 1, 1] + [1, 3, 1, 3, 1, 0] * 99)

    def test_three_hundred_starts(self):
        self.assertEqual(answers([0, 32] * 300), [1, 0] * 300)


class NothingChanged(unittest.TestCase):
    def test_the_list_is_the_same_afterwards(self):
        for calls in (MIXED, flat(full() + [come_in(0, 1)])):
            handed = list(calls)
            answers(handed)
            self.assertEqual(handed, calls)

    def test_the_list_is_not_changed_for_a_while_either(self):
        self.assertEqual(answers(Unchanging(MIXED)), MIXED_ANSWERS)

    def test_the_answer_is_another_list(self):
        handed = [0, 1]
        self.assertIsNot(answers(handed), handed)


class NothingKept(unittest.TestCase):
    def test_twice_alike(self):
        for calls in (MIXED, flat(full() + [come_in(0, 1)])):
            self.assertEqual(answers(calls), answers(calls))

    def test_alike_with_others_between(self):
        first = answers(MIXED)
        answers(flat(full()))
        answers([0, 32, 1, 0, 5, 0, 0])
        self.assertEqual(answers(MIXED), first)

    def test_the_tanks_are_empty_every_time(self):
        self.assertEqual(answers(flat([start(2), come_in(0, 5)])), [1, 0, 1, 0])
        self.assertEqual(answers(flat([start(2), pour(0, 1, 1)])), [1, 0, 1, -33])

    def test_a_changed_answer_changes_no_later_one(self):
        answers(MIXED).clear()
        self.assertEqual(answers(MIXED), MIXED_ANSWERS)


class NothingPrinted(unittest.TestCase):
    def test_prints_nothing(self):
        out, err = io.StringIO(), io.StringIO()
        with contextlib.redirect_stdout(out), contextlib.redirect_stderr(err):
            answers(MIXED)
        self.assertEqual((out.getvalue(), err.getvalue()), ("", ""))


if __name__ == "__main__":
    unittest.main()
