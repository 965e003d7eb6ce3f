"""Which refusal counts, and that nothing changes after one."""
import unittest

from line import (
    area, ask, begin, between, corners, go, home, last, look, round_square, shortest, squares, straight, where, zero,
)

NO_WAYS = (
    "ruld" * 10 + "r", "ruld" * 12 + "rl", "ruld" * 10 + "rl", "4", "r9l", "rrrrrlllll", "llllll", "uuuuu", "ddddddu",
)
NO_LOOPS = ("r", "l", "u", "d", "rrul", "ud" * 19 + "ru")


def calls_with(text):
    """All calls that a way is handed to, with this one."""
    return [
        go(text), area(text), round_square(0, 0, text), squares(text), corners(text), straight(text),
        between(text, text), between(text, ""), between("", text), between("r", text), between(text, "r"),
    ]


def loop_calls_with(text):
    """All calls that want a loop, be it out along one way and back along another."""
    return [
        area(text), round_square(7, 7, text), squares(text), corners(text), between(text, ""), between("", text),
    ]


class WithoutPaper(unittest.TestCase):
    def test_all_but_begin_answer_9_below_0(self):
        plain = [zero(), shortest(0), shortest(1), shortest(64), home(), look()]
        for call in plain + calls_with("") + calls_with("ruld") + calls_with("r"):
            self.assertEqual(ask(call), [[-9]])

    def test_that_counts_ahead_of_any_other(self):
        for text in NO_WAYS + NO_LOOPS:
            for call in calls_with(text) + [round_square(8, 20, text)]:
                self.assertEqual(ask(call), [[-9]])
        for many in (65, 99):
            self.assertEqual(ask(shortest(many)), [[-9]])

    def test_begin_isnt_refused_with_it(self):
        self.assertEqual(ask(begin(9, 0)), [[-1]])
        self.assertEqual(ask(begin(8, 0)), [[0]])

    def test_paper_comes_with_begin(self):
        told = ask(zero(), go("r"), home(), look(), begin(1, 1), go("r"), zero(), look())
        self.assertEqual(told, [[-9], [-9], [-9], [-9], [0], [2, 1, 0], [0, 0], [2, 1, 1, 0]])


class WhichCounts(unittest.TestCase):
    def test_no_way_ahead_of_no_loop(self):
        for text in NO_WAYS:
            for call in calls_with(text):
                self.assertEqual(last(begin(4, 4), call), [-1])

    def test_no_way_of_either_two_ahead_of_ends_apart(self):
        for text in NO_WAYS:
            for other in NO_LOOPS + NO_WAYS:
                self.assertEqual(last(begin(4, 4), between(text, other)), [-1])
                self.assertEqual(last(begin(4, 4), between(other, text)), [-1])

    def test_no_way_ahead_of_no_such_square(self):
        for text in NO_WAYS:
            for right, up in ((8, 0), (0, 8), (20, 20)):
                self.assertEqual(last(begin(4, 4), round_square(right, up, text)), [-1])

    def test_no_such_square_ahead_of_no_loop(self):
        for text in NO_LOOPS:
            for right, up in ((8, 0), (0, 8), (20, 20)):
                self.assertEqual(last(begin(4, 4), round_square(right, up, text)), [-2])

    def test_no_loop_comes_last(self):
        for text in NO_LOOPS:
            for call in loop_calls_with(text):
                self.assertEqual(last(begin(4, 4), call), [-6])

    def test_go_straight_and_between_need_no_loop(self):
        for text in NO_LOOPS:
            for call in (go(text), straight(text), between(text, text)):
                self.assertGreaterEqual(last(begin(4, 4), call)[0], 0)


class NothingChanges(unittest.TestCase):
    def refused(self):
        calls = [begin(9, 3), begin(3, 9), begin(20, 20), shortest(65), shortest(99)]
        for text in NO_WAYS:
            calls += calls_with(text) + [round_square(8, 8, text)]
        for text in NO_LOOPS:
            calls += loop_calls_with(text) + [round_square(8, 8, text)]
        return calls

    def test_with_paper(self):
        for call in self.refused():
            told = ask(begin(3, 3), go("ur"), call, look(), where(), zero(), look())
            self.assertEqual(len(told[2]), 1)
            self.assertLess(told[2][0], 0)
            self.assertEqual(told[3:], [[4, 4, 2, 3], [4, 4, 3], [0, 3], [4, 4, 2, 0]])

    def test_without_paper(self):
        for call in self.refused():
            self.assertEqual(ask(call, look(), begin(2, 2), look())[1:], [[-9], [0], [2, 2, 0, 0]])

    def test_without_paper_home_leads_nothing_home(self):
        self.assertEqual(ask(home(), begin(2, 2), look()), [[-9], [0], [2, 2, 0, 0]])


if __name__ == "__main__":
    unittest.main()
