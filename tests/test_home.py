"""Point 11."""
import unittest

from line import ask, begin, go, home, look, steps, where, zero


class Home(unittest.TestCase):
    def test_from_every_corner_to_the_left_and_then_down(self):
        for right in range(9):
            for up in range(9):
                told = ask(begin(right, up), home(), look())
                self.assertEqual(told, [[0], steps("l" * right + "d" * up), [0, 0, right + up, 0]])

    def test_from_the_papers_corners(self):
        self.assertEqual(ask(begin(0, 0), home())[1:], [[0]])
        self.assertEqual(ask(begin(8, 0), home())[1:], [[8, 1, 1, 1, 1, 1, 1, 1, 1]])
        self.assertEqual(ask(begin(0, 8), home())[1:], [[8, 3, 3, 3, 3, 3, 3, 3, 3]])
        self.assertEqual(ask(begin(8, 8), home())[1:], [[16] + [1] * 8 + [3] * 8])

    def test_the_pointer_is_there_then(self):
        told = ask(begin(3, 2), home(), where(), home(), where(), go("r"), home(), where())
        self.assertEqual(told[2:], [[0, 0, 0], [0], [0, 0, 0], [1, 0, 0], [1, 1], [0, 0, 0]])

    def test_the_wheel_turns_as_along_that_way(self):
        for right in range(9):
            for up in range(9):
                there = "r" * right + "u" * up
                told = ask(begin(0, 0), go(there), home(), look(), zero())
                self.assertEqual(told[3:], [[0, 0, 2 * (right + up), right * up], [0, right * up]])
                by_go = ask(begin(0, 0), go(there), go("l" * right + "d" * up), look(), zero())
                self.assertEqual(told[3:], by_go[3:])

    def test_the_wheel_keeps_what_it_said_below_0(self):
        told = ask(begin(5, 5), go("dd"), home(), look())
        self.assertEqual(told[1:], [[5, 3, -10], steps("lllllddd"), [0, 0, 10, -10]])

    def test_a_way_begins_there_behind_it(self):
        told = ask(begin(4, 4), home(), go("l"), go("d"), go("u"), go("r"))
        self.assertEqual(told[2:], [[-1], [-1], [0, 1, 0], [1, 1, 0]])


if __name__ == "__main__":
    unittest.main()
