"""Point 6."""
import unittest

from line import ask, begin, go, last, squares, where

ONCE_ROUND_THE_PAPER = "rrrrrrrruuuuuuuulllllllldddddddd"


class Squares(unittest.TestCase):
    def test_of_one_square(self):
        for right in range(8):
            for up in range(8):
                self.assertEqual(last(begin(right, up), squares("ruld")), [1, 1])
                self.assertEqual(last(begin(right, up), squares("urdl")), [1, 1])

    def test_of_a_figure(self):
        self.assertEqual(last(begin(2, 3), squares("rrruulllldrd")), [7, 1])

    def test_of_the_whole_paper(self):
        self.assertEqual(last(begin(0, 0), squares(ONCE_ROUND_THE_PAPER)), [64, 1])
        self.assertEqual(last(begin(0, 0), squares("uuuuuuuurrrrrrrrddddddddllllllll")), [64, 1])

    def test_of_loops_gone_round_again_and_again(self):
        self.assertEqual(last(begin(4, 4), squares("rruulldd" * 2)), [4, 2])
        self.assertEqual(last(begin(4, 4), squares("uurrddll" * 2)), [4, 2])
        self.assertEqual(last(begin(7, 7), squares("ruld" * 10)), [1, 10])
        self.assertEqual(last(begin(7, 7), squares("urdl" * 10)), [1, 10])

    def test_round_and_back_again_is_not_gone_round(self):
        self.assertEqual(last(begin(4, 4), squares("rruulldd" + "uurrddll")), [0, 0])

    def test_of_a_loop_that_crosses_itself(self):
        self.assertEqual(last(begin(1, 2), squares("ur" + "ruld" + "dl")), [2, 1])
        self.assertEqual(last(begin(0, 0), squares("rrruuulllddd" + "ru" + "ruld" + "dl")), [9, 2])
        self.assertEqual(last(begin(0, 0), squares("rrruuulllddd" + "ru" + "urdl" + "dl")), [8, 1])

    def test_the_most_often_counts_whichever_way(self):
        self.assertEqual(last(begin(4, 4), squares("ruld" + "dlur" * 3)), [2, 3])
        self.assertEqual(last(begin(4, 4), squares("ruld" * 3 + "dlur")), [2, 3])
        self.assertEqual(last(begin(4, 4), squares("dlur" * 3 + "ruld")), [2, 3])

    def test_of_none(self):
        self.assertEqual(last(begin(4, 4), squares("")), [0, 0])
        self.assertEqual(last(begin(4, 4), squares("rrll")), [0, 0])
        self.assertEqual(last(begin(4, 4), squares("rruuddll")), [0, 0])

    def test_the_pointer_and_the_wheel_stay(self):
        told = ask(begin(2, 2), go("u"), squares("rruulldd"), where())
        self.assertEqual(told, [[0], [2, 3, 2], [4, 1], [2, 3, 2]])

    def test_no_loop_is_refused(self):
        for text in ("r", "l", "u", "d", "rul", "rrl", "uud"):
            self.assertEqual(ask(begin(4, 4), squares(text), where()), [[0], [-6], [4, 4, 0]])

    def test_no_way_is_refused(self):
        for text in ("ruld" * 10 + "ud", "ud" * 25, "r4l", "uuuuuddddd", "dddddu"):
            self.assertEqual(ask(begin(4, 4), squares(text), where()), [[0], [-1], [4, 4, 0]])


if __name__ == "__main__":
    unittest.main()
