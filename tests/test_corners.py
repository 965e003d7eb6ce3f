"""Point 7."""
import unittest

from line import ask, begin, corners, go, last, look

ONCE_ROUND_THE_PAPER = "rrrrrrrruuuuuuuulllllllldddddddd"


class Corners(unittest.TestCase):
    def test_of_one_square(self):
        for right in range(8):
            for up in range(8):
                self.assertEqual(last(begin(right, up), corners("ruld")), [0, 4])
                self.assertEqual(last(begin(right, up), corners("urdl")), [0, 4])

    def test_of_every_rectangle(self):
        for wide in range(1, 9):
            for high in range(1, 9):
                text = "r" * wide + "u" * high + "l" * wide + "d" * high
                expected = [(wide - 1) * (high - 1), 2 * (wide + high)]
                self.assertEqual(last(begin(0, 0), corners(text)), expected)
                self.assertEqual(last(begin(8 - wide, 8 - high), corners(text)), expected)

    def test_every_corner_may_lie_within(self):
        for right in range(7):
            for up in range(7):
                self.assertEqual(last(begin(right, up), corners("rruulldd")), [1, 8])
                self.assertEqual(last(begin(right, up), corners("uurrddll")), [1, 8])

    def test_of_a_figure(self):
        self.assertEqual(last(begin(2, 3), corners("rrruulllldrd")), [2, 12])
        self.assertEqual(last(begin(2, 3), corners("rrrruuulllld" + "rrdlld")), [2, 18])
        self.assertEqual(last(begin(1, 1), corners("rrrruuullldddl")), [4, 13])

    def test_of_the_whole_paper(self):
        self.assertEqual(last(begin(0, 0), corners(ONCE_ROUND_THE_PAPER)), [49, 32])
        self.assertEqual(last(begin(0, 0), corners("uuuuuuuurrrrrrrrddddddddllllllll")), [49, 32])
        self.assertEqual(last(begin(8, 8), corners("lllllllldddddddd" + "rrrrrrrruuuuuuuu")), [49, 32])

    def test_of_loops_gone_round_twice(self):
        self.assertEqual(last(begin(4, 4), corners("rruulldd" * 2)), [1, 8])
        self.assertEqual(last(begin(4, 4), corners("uurrddll" * 2)), [1, 8])
        self.assertEqual(last(begin(4, 4), corners("rruulldd" * 5)), [1, 8])

    def test_round_and_back_again_is_not_gone_round(self):
        self.assertEqual(last(begin(4, 4), corners("rruulldd" + "uurrddll")), [0, 8])

    def test_of_a_loop_that_crosses_itself(self):
        self.assertEqual(last(begin(3, 3), corners("rruulldd" + "ddlluurr")), [2, 15])
        self.assertEqual(last(begin(3, 3), corners("rruulldd" + "lldd" + "rruu")), [2, 15])
        self.assertEqual(last(begin(1, 2), corners("ur" + "ruld" + "dl")), [0, 7])

    def test_of_a_loop_that_overlaps_itself(self):
        # Of the corners within both, all but the one in the middle are come to.
        self.assertEqual(last(begin(2, 2), corners("rrruuulllddd" + "ru" + "rrruuulllddd" + "dl")), [1, 22])
        self.assertEqual(last(begin(0, 0), corners("rrrruuuulllldddd" + "ru" + "rruulldd" + "dl")), [1, 24])
        # Back round the middle the other way, it is gone round 0 times.
        self.assertEqual(last(begin(0, 0), corners("rrrruuuulllldddd" + "ru" + "uurrddll" + "dl")), [0, 24])

    def test_a_corner_within_that_the_way_comes_to_isnt_counted(self):
        self.assertEqual(last(begin(0, 0), corners("rrruuulllddd")), [4, 12])
        self.assertEqual(last(begin(0, 0), corners("rrrulruulllddd")), [3, 13])
        self.assertEqual(last(begin(0, 0), corners("rrruuulllddd" + "ruuddl")), [2, 14])

    def test_a_corner_come_to_again_and_again_is_counted_once(self):
        self.assertEqual(last(begin(4, 4), corners("rl" * 20)), [0, 2])
        self.assertEqual(last(begin(4, 4), corners("rlud" * 5)), [0, 3])
        self.assertEqual(last(begin(7, 7), corners("ruld" * 10)), [0, 4])
        self.assertEqual(last(begin(4, 4), corners("rluddulr")), [0, 5])

    def test_of_no_steps(self):
        for right in range(9):
            for up in range(9):
                self.assertEqual(last(begin(right, up), corners("")), [0, 1])

    def test_along_the_papers_edges(self):
        self.assertEqual(last(begin(0, 0), corners("u" * 8 + "d" * 8)), [0, 9])
        self.assertEqual(last(begin(8, 0), corners("u" * 8 + "d" * 8)), [0, 9])
        self.assertEqual(last(begin(0, 0), corners("r" * 8 + "l" * 8)), [0, 9])
        self.assertEqual(last(begin(0, 8), corners("r" * 8 + "l" * 8)), [0, 9])

    def test_the_corners_beside_a_loop_arent_gone_round(self):
        self.assertEqual(last(begin(0, 0), corners("uurrddll")), [1, 8])
        self.assertEqual(last(begin(6, 6), corners("rruulldd")), [1, 8])
        self.assertEqual(last(begin(0, 6), corners("rruulldd")), [1, 8])
        self.assertEqual(last(begin(6, 0), corners("rruulldd")), [1, 8])

    def test_begins_where_the_pointer_is_which_stays(self):
        told = ask(begin(2, 2), go("u"), corners("rrruulllldrd"), look(), corners("rruulldd"), look())
        self.assertEqual(told, [[0], [2, 3, 2], [2, 12], [2, 3, 1, 2], [1, 8], [2, 3, 1, 2]])
        self.assertEqual(last(begin(6, 0), go("rr"), corners("ruld")), [-1])
        self.assertEqual(last(begin(6, 0), go("rl"), corners("ruld")), [0, 4])

    def test_no_loop_is_refused(self):
        for text in ("r", "l", "u", "d", "rul", "rrl", "uud", "ud" * 19 + "ru"):
            self.assertEqual(ask(begin(4, 4), corners(text), look()), [[0], [-6], [4, 4, 0, 0]])

    def test_no_way_is_refused(self):
        for text in ("ruld" * 10 + "u", "ruld" * 10 + "ud", "ud" * 25, "r4l", "9", "uuuuuddddd", "dddddu"):
            self.assertEqual(ask(begin(4, 4), corners(text), look()), [[0], [-1], [4, 4, 0, 0]])


if __name__ == "__main__":
    unittest.main()
