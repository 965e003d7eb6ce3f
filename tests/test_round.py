"""Point 5."""
import unittest

from line import ask, begin, go, last, round_square, where

ONCE_ROUND_THE_PAPER = "rrrrrrrruuuuuuuulllllllldddddddd"


class Round(unittest.TestCase):
    def rows(self, start, text):
        """How often each square is gone round, as the paper lies: the highest row first."""
        return [
            [last(begin(*start), round_square(right, up, text))[1] for right in range(8)]
            for up in reversed(range(8))
        ]

    def test_of_one_square(self):
        for right in range(8):
            for up in range(8):
                self.assertEqual(last(begin(right, up), round_square(right, up, "ruld")), [0, 1])
                self.assertEqual(last(begin(right, up), round_square(right, up, "urdl")), [0, -1])

    def test_the_squares_beside_it_arent(self):
        for right, up in ((2, 3), (4, 3), (3, 2), (3, 4), (2, 2), (4, 4), (0, 3), (7, 3), (3, 0), (3, 7)):
            self.assertEqual(last(begin(3, 3), round_square(right, up, "ruld")), [0, 0])
            self.assertEqual(last(begin(3, 3), round_square(right, up, "urdl")), [0, 0])

    def test_of_the_whole_paper(self):
        self.assertEqual(self.rows((0, 0), ONCE_ROUND_THE_PAPER), [[1] * 8] * 8)
        self.assertEqual(self.rows((8, 8), "ddddddddlllllllluuuuuuuurrrrrrrr"), [[-1] * 8] * 8)

    def test_of_loops_gone_round_again_and_again(self):
        self.assertEqual(last(begin(0, 7), round_square(0, 7, "ruld" * 2)), [0, 2])
        self.assertEqual(last(begin(7, 0), round_square(7, 0, "urdl" * 2)), [0, -2])
        self.assertEqual(last(begin(7, 7), round_square(7, 7, "ruld" * 10)), [0, 10])
        self.assertEqual(last(begin(0, 0), round_square(0, 0, "urdl" * 10)), [0, -10])
        self.assertEqual(last(begin(0, 0), round_square(0, 0, "ruld" + "urdl")), [0, 0])

    def test_of_a_loop_that_crosses_itself(self):
        empty = [0] * 8
        crossing = [empty] * 4 + [[0, 0, 1, 0, 0, 0, 0, 0], [0, -1, 0, 0, 0, 0, 0, 0]] + [empty] * 2
        self.assertEqual(self.rows((1, 2), "ur" + "ruld" + "dl"), crossing)

    def test_of_a_loop_that_overlaps_itself(self):
        empty = [0] * 8
        overlapping = [empty] * 5 + [
            [1, 1, 1, 0, 0, 0, 0, 0],
            [1, 2, 1, 0, 0, 0, 0, 0],
            [1, 1, 1, 0, 0, 0, 0, 0],
        ]
        self.assertEqual(self.rows((0, 0), "rrruuulllddd" + "ru" + "ruld" + "dl"), overlapping)

    def test_of_no_steps(self):
        self.assertEqual(last(begin(4, 4), round_square(4, 4, "")), [0, 0])

    def test_the_pointer_and_the_wheel_stay(self):
        told = ask(begin(2, 2), go("u"), round_square(2, 3, "ruld"), where())
        self.assertEqual(told, [[0], [2, 3, 2], [0, 1], [2, 3, 2]])

    def test_no_such_square_is_refused(self):
        for right in range(21):
            for up in range(21):
                expected = [0, 0] if right <= 7 and up <= 7 else [-2]
                told = ask(begin(4, 4), round_square(right, up, ""), where())
                self.assertEqual(told, [[0], expected, [4, 4, 0]])

    def test_no_loop_is_refused(self):
        for text in ("r", "l", "u", "d", "rul", "rru"):
            self.assertEqual(ask(begin(4, 4), round_square(0, 7, text), where()), [[0], [-6], [4, 4, 0]])

    def test_no_way_is_refused(self):
        for text in ("ruld" * 10 + "ud", "ud" * 25, "r4l", "uuuuuddddd", "dddddu"):
            self.assertEqual(ask(begin(4, 4), round_square(7, 0, text), where()), [[0], [-1], [4, 4, 0]])


if __name__ == "__main__":
    unittest.main()
