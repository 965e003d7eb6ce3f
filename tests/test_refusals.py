"""Which refusal counts, and that nothing changes after one."""
import unittest

from line import area, ask, begin, go, last, round_square, squares, where, zero

NO_WAYS = ("ruld" * 10 + "r", "ruld" * 12 + "rl", "ruld" * 10 + "rl", "4", "r9l", "rrrrrlllll", "llllll", "uuuuu", "ddddddu")
NO_LOOPS = ("r", "l", "u", "d", "rrul", "ud" * 19 + "ru")


class WithoutPaper(unittest.TestCase):
    def test_all_but_begin_answer_9_below_0(self):
        for call in (go("r"), go(""), zero(), area("ruld"), area(""), round_square(0, 0, ""), squares("ruld")):
            self.assertEqual(ask(call), [[-9]])

    def test_that_counts_ahead_of_any_other(self):
        for text in NO_WAYS + NO_LOOPS:
            for call in (go(text), area(text), round_square(0, 0, text), round_square(8, 20, text), squares(text)):
                self.assertEqual(ask(call), [[-9]])

    def test_begin_isnt_refused_with_it(self):
        self.assertEqual(ask(begin(9, 0)), [[-1]])
        self.assertEqual(ask(begin(8, 0)), [[0]])

    def test_paper_comes_with_begin(self):
        told = ask(zero(), go("r"), begin(1, 1), go("r"), zero())
        self.assertEqual(told, [[-9], [-9], [0], [2, 1, 0], [0, 0]])


class WhichCounts(unittest.TestCase):
    def test_no_way_ahead_of_no_loop(self):
        for text in NO_WAYS:
            for call in (go(text), area(text), round_square(0, 0, text), squares(text)):
                self.assertEqual(last(begin(4, 4), call), [-1])

    def test_no_way_ahead_of_no_such_square(self):
        for text in NO_WAYS:
            for right, up in ((8, 0), (0, 8), (20, 20)):
                self.assertEqual(last(begin(4, 4), round_square(right, up, text)), [-1])

    def test_no_such_square_ahead_of_no_loop(self):
        for text in NO_LOOPS:
            for right, up in ((8, 0), (0, 8), (20, 20)):
                self.assertEqual(last(begin(4, 4), round_square(right, up, text)), [-2])

    def test_no_loop_comes_last(self):
        for text in NO_LOOPS:
            for call in (area(text), round_square(7, 7, text), squares(text)):
                self.assertEqual(last(begin(4, 4), call), [-6])

    def test_go_needs_no_loop(self):
        for text in NO_LOOPS:
            self.assertGreaterEqual(last(begin(4, 4), go(text))[0], 0)


class NothingChanges(unittest.TestCase):
    def refused(self):
        calls = [begin(9, 3), begin(3, 9), begin(20, 20)]
        for text in NO_WAYS:
            calls += [go(text), area(text), round_square(1, 1, text), round_square(8, 8, text), squares(text)]
        for text in NO_LOOPS:
            calls += [area(text), round_square(1, 1, text), round_square(8, 8, text), squares(text)]
        return calls

    def test_with_paper(self):
        for call in self.refused():
            told = ask(begin(3, 3), go("ur"), call, where(), zero())
            self.assertEqual(len(told[2]), 1)
            self.assertLess(told[2][0], 0)
            self.assertEqual(told[3:], [[4, 4, 3], [0, 3]])

    def test_without_paper(self):
        for call in self.refused():
            self.assertEqual(ask(call, where(), begin(2, 2), where())[1:], [[-9], [0], [2, 2, 0]])


if __name__ == "__main__":
    unittest.main()
