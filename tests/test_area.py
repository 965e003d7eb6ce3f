"""Point 4."""
import unittest

from line import ask, area, begin, go, last, where

ONCE_ROUND_THE_PAPER = "rrrrrrrruuuuuuuulllllllldddddddd"


class Area(unittest.TestCase):
    def test_of_a_square(self):
        for right in range(8):
            for up in range(8):
                self.assertEqual(last(begin(right, up), area("ruld")), [0, 1])
                self.assertEqual(last(begin(right, up), area("urdl")), [0, -1])

    def test_of_a_figure(self):
        self.assertEqual(last(begin(2, 3), area("rrruulllldrd")), [0, 7])
        self.assertEqual(last(begin(1, 1), area("rrruuullddrdll")), [0, 5])
        self.assertEqual(last(begin(1, 1), area("rrruulldld")), [0, 5])

    def test_of_the_whole_paper(self):
        self.assertEqual(last(begin(0, 0), area(ONCE_ROUND_THE_PAPER)), [0, 64])
        self.assertEqual(last(begin(8, 8), area("lllllllldddddddd" + "rrrrrrrruuuuuuuu")), [0, 64])
        self.assertEqual(last(begin(0, 0), area("uuuuuuuurrrrrrrrddddddddllllllll")), [0, -64])

    def test_of_a_loop_gone_round_twice(self):
        self.assertEqual(last(begin(4, 4), area("rruullddrruulldd")), [0, 8])
        self.assertEqual(last(begin(4, 4), area("uurrddlluurrddll")), [0, -8])

    def test_of_a_loop_that_crosses_itself(self):
        self.assertEqual(last(begin(4, 4), area("ruld" + "ldru")), [0, 2])
        self.assertEqual(last(begin(4, 4), area("ruld" + "dlur")), [0, 0])
        self.assertEqual(last(begin(1, 2), area("ur" + "ruld" + "dl")), [0, 0])
        self.assertEqual(last(begin(0, 0), area("rrruulldrruulllddd")), [0, 11])

    def test_of_no_area(self):
        self.assertEqual(last(begin(7, 7), area("")), [0, 0])
        self.assertEqual(last(begin(7, 7), area("ud")), [0, 0])
        self.assertEqual(last(begin(7, 7), area("lldduurr")), [0, 0])

    def test_of_40_steps(self):
        self.assertEqual(last(begin(3, 3), area("ruld" * 10)), [0, 10])

    def test_the_pointer_and_the_wheel_stay(self):
        told = ask(begin(2, 2), go("u"), area("rruulldd"), where(), area("rruulldd"))
        self.assertEqual(told, [[0], [2, 3, 2], [0, 4], [2, 3, 2], [0, 4]])

    def test_begins_where_the_pointer_is(self):
        self.assertEqual(last(begin(6, 0), go("rr"), area("ruld")), [-1])
        self.assertEqual(last(begin(6, 0), go("rl"), area("ruld")), [0, 1])

    def test_no_loop_is_refused(self):
        for text in ("r", "l", "u", "d", "rul", "rrl", "uud", "ru" * 4, "rrrllu"):
            self.assertEqual(ask(begin(4, 4), area(text), where()), [[0], [-6], [4, 4, 0]])

    def test_no_way_is_refused(self):
        for text in ("ruld" * 10 + "ud", "ud" * 25, "r4l", "9", "uuuuudddddd", "dddddu", "rrrrrlllll", "lllllrrrrr"):
            self.assertEqual(ask(begin(4, 4), area(text), where()), [[0], [-1], [4, 4, 0]])


if __name__ == "__main__":
    unittest.main()
