"""How calls are handed in and how answers are given back."""
import contextlib
import io
import unittest

from line import (
    area, begin, between, corners, go, home, joined, look, round_square, shortest, squares, straight, where, zero,
)
from wheelarea.pointer import answers


class Untouchable(list):
    """A list that fails if it is changed, be it for a while."""

    def fail(self, *given, **named):
        raise AssertionError("what was handed in is changed")

    append = extend = insert = pop = remove = reverse = sort = clear = fail
    __setitem__ = __delitem__ = __iadd__ = __imul__ = fail


class Interface(unittest.TestCase):
    def test_the_numbers_as_they_stand(self):
        self.assertEqual(answers([0, 2, 1]), [1, 0])
        self.assertEqual(answers([0, 2, 1, 1, 3, 0, 2, 2]), [1, 0, 3, 3, 3, 6])
        self.assertEqual(answers([0, 2, 1, 1, 0]), [1, 0, 3, 2, 1, 0])
        self.assertEqual(answers([0, 2, 1, 1, 1, 3, 2]), [1, 0, 3, 2, 0, -2, 2, 0, -2])
        self.assertEqual(answers([0, 2, 1, 3, 4, 2, 0, 3, 1]), [1, 0, 2, 0, -1])
        self.assertEqual(answers([0, 2, 1, 4, 2, 1, 4, 2, 0, 3, 1]), [1, 0, 2, 0, -1])
        self.assertEqual(answers([0, 2, 1, 5, 4, 2, 0, 3, 1]), [1, 0, 2, 1, 1])
        self.assertEqual(answers([0, 2, 1, 6, 4, 2, 0, 3, 1]), [1, 0, 2, 0, 4])
        self.assertEqual(answers([0, 2, 1, 7, 2, 2, 0, 4, 0, 2, 0, 1]), [1, 0, 2, 0, -1])
        self.assertEqual(answers([0, 2, 1, 7, 0, 2, 1, 0]), [1, 0, 2, 0, 0])
        self.assertEqual(answers([0, 2, 1, 7, 2, 1, 0, 0]), [1, 0, 2, 0, 0])
        self.assertEqual(answers([0, 2, 1, 8, 3, 2, 0, 1]), [1, 0, 2, 1, 2])
        self.assertEqual(answers([0, 2, 1, 8, 2, 0, 1]), [1, 0, 1, 0])
        self.assertEqual(answers([0, 2, 1, 9, 2]), [1, 0, 7, 6, 0, 0, 2, 1, 1, 3])
        self.assertEqual(answers([0, 2, 1, 9, 0]), [1, 0, 1, 0])
        self.assertEqual(answers([0, 2, 1, 10]), [1, 0, 4, 3, 1, 1, 3])
        self.assertEqual(answers([0, 0, 0, 10]), [1, 0, 1, 0])
        self.assertEqual(answers([0, 2, 1, 11]), [1, 0, 4, 2, 1, 0, 0])

    def test_calls_of_all_twelve_kinds_in_one_list(self):
        calls = [
            11, 0, 1, 2, 1, 3, 0, 2, 2, 3, 4, 0, 2, 1, 3, 4, 2, 4, 4, 0, 2, 1, 3, 5, 4, 2, 0, 3, 1,
            6, 8, 0, 0, 2, 2, 1, 1, 3, 3, 7, 2, 0, 2, 2, 2, 0, 8, 4, 0, 2, 3, 0, 9, 3, 2, 11, 10, 11, 2,
        ]
        told = [
            1, -9, 1, 0, 3, 2, 4, 4, 2, 0, 1, 2, 0, 1, 2, 1, 1,
            2, 1, 8, 2, 0, 1, 3, 2, 0, 0, 9, 8, 0, 0, 2, 1, 2, 1, 3, 3, 2, 0, 4, 4, 2, 4, 3, 0,
            7, 6, 1, 1, 3, 3, 3, 3, 4, 0, 0, 9, 0, 2, 0, 0,
        ]
        self.assertEqual(answers(calls), told)

    def test_a_refusal_is_its_number_alone(self):
        self.assertEqual(answers([2]), [1, -9])
        self.assertEqual(answers([0, 9, 1, 0, 1, 1, 1, 1, 4]), [1, -1, 1, 0, 1, -1])
        self.assertEqual(answers([0, 1, 1, 4, 8, 1, 0, 3, 1, 2]), [1, 0, 1, -2, 1, -6])
        self.assertEqual(answers([0, 1, 1, 6, 1, 4, 6, 1, 2, 7, 1, 4, 0]), [1, 0, 1, -1, 1, -6, 1, -1])
        self.assertEqual(answers([0, 1, 1, 7, 0, 1, 4, 7, 1, 2, 0, 8, 1, 4, 9, 65]), [1, 0, 1, -1, 1, -6, 1, -1, 1, -1])

    def test_numbers_of_a_refused_way_are_no_calls(self):
        calls = [1, 5, 0, 0, 0, 2, 2, 0, 1, 1, 1, 6, 9, 0, 5, 5, 2, 2, 2]
        self.assertEqual(answers(calls), [1, -9, 1, 0, 1, -1, 2, 0, 0])
        calls = [7, 2, 0, 0, 3, 9, 9, 9, 9, 5, 0, 1, 1, 7, 3, 9, 0, 2, 2, 0, 0, 7, 2, 0, 0, 1, 7, 9, 99, 11]
        self.assertEqual(answers(calls), [1, -9, 1, -9, 1, 0, 1, -1, 1, -1, 1, -1, 4, 1, 1, 0, 0])

    def test_many_calls_in_one_list(self):
        self.assertEqual(answers([2] * 60), [1, -9] * 60)
        self.assertEqual(answers(joined([begin(8, 0)] + [go("u" * 8 + "d" * 8)] * 59)), [1, 0] + [3, 8, 0, 0] * 59)
        turned = []
        for many in range(1, 60):
            turned += [3, 0, 0, 64 * many]
        once_round = "r" * 8 + "u" * 8 + "l" * 8 + "d" * 8
        self.assertEqual(answers(joined([begin(0, 0)] + [go(once_round)] * 59)), [1, 0] + turned)

    def test_the_longest_calls(self):
        calls = joined([begin(0, 0)] + [round_square(0, 0, "ud" * 25)] * 59)
        self.assertEqual(answers(calls), [1, 0] + [1, -1] * 59)
        calls = joined([between("ud" * 25, "ud" * 25)] * 60)
        self.assertEqual(len(calls), 6180)
        self.assertEqual(answers(calls), [1, -9] * 60)
        calls = joined([begin(0, 0)] + [between("ud" * 20, "ru" * 8 + "ld" * 8)] * 59)
        self.assertEqual(answers(calls), [1, 0] + [2, 0, -8] * 59)

    def test_the_longest_answers(self):
        around = "ruld" * 10
        calls = joined([begin(0, 0)] + [straight(around)] * 59)
        self.assertEqual(answers(calls), [1, 0] + ([41, 40] + [0, 2, 1, 3] * 10) * 59)

    def test_the_list_stays_as_it_was(self):
        for calls in self.lines():
            before = list(calls)
            answers(calls)
            self.assertEqual(calls, before)
            self.assertEqual(answers(Untouchable(calls)), answers(calls))

    def test_the_answer_is_a_list_of_its_own(self):
        calls = joined([begin(1, 1), where()])
        first = answers(calls)
        first.append(7)
        self.assertEqual(answers(calls), [1, 0, 3, 1, 1, 0])

    def test_nothing_is_kept_from_one_time_to_the_next(self):
        for before in self.lines():
            first = answers(before)
            self.assertEqual(answers([11, 2]), [1, -9, 1, -9])
            self.assertEqual(answers([0, 1, 2, 1, 0, 2, 11]), [1, 0, 3, 1, 2, 0, 2, 0, 0, 4, 1, 2, 0, 0])
            self.assertEqual(answers(before), first)

    def test_whole_numbers_in_a_list(self):
        for calls in self.lines():
            told = answers(calls)
            self.assertIs(type(told), list)
            for number in told:
                self.assertIs(type(number), int)

    def test_nothing_is_printed(self):
        printed = io.StringIO()
        with contextlib.redirect_stdout(printed), contextlib.redirect_stderr(printed):
            for calls in self.lines():
                answers(calls)
        self.assertEqual(printed.getvalue(), "")

    def lines(self):
        return [
            joined([begin(3, 3), go("urd"), zero(), where()]),
            joined([begin(3, 3), area("ruld"), round_square(3, 3, "ruld"), squares("ruld")]),
            joined([begin(0, 0), area(""), round_square(0, 0, ""), squares(""), go("u" * 9), go("4")]),
            joined([zero(), begin(9, 9), area("r"), begin(8, 8), area("l"), round_square(8, 8, ""), squares("l")]),
            joined([begin(3, 3), corners("rruulldd"), between("ru", "ur"), straight("rudrl"), shortest(5), look()]),
            joined([begin(8, 8), go("ld"), look(), home(), look(), home(), zero(), look()]),
            joined([begin(0, 0), corners(""), between("", ""), straight(""), shortest(0), home(), look()]),
            joined([look(), home(), begin(4, 4), corners("r"), between("r", "u"), straight("9"), shortest(65), look()]),
            joined([begin(4, 4), corners("9"), between("9", ""), between("", "9"), straight("rl" * 25), shortest(99)]),
        ]


if __name__ == "__main__":
    unittest.main()
