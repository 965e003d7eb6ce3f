"""Point 3."""
import unittest

from line import ask, begin, go, last, look, where, zero


class Zero(unittest.TestCase):
    def test_tells_what_the_wheel_said(self):
        self.assertEqual(ask(begin(5, 0), zero()), [[0], [0, 0]])
        self.assertEqual(ask(begin(5, 0), go("uu"), zero()), [[0], [5, 2, 10], [0, 10]])
        self.assertEqual(ask(begin(5, 8), go("dd"), zero()), [[0], [5, 6, -10], [0, -10]])

    def test_the_wheel_says_0_then(self):
        told = ask(begin(5, 0), go("uu"), zero(), zero(), where(), go("u"), zero())
        self.assertEqual(told, [[0], [5, 2, 10], [0, 10], [0, 0], [5, 2, 0], [5, 3, 5], [0, 5]])

    def test_leaves_the_steps_that_were_made(self):
        self.assertEqual(last(begin(1, 1), go("uu"), zero(), look()), [1, 3, 2, 0])


if __name__ == "__main__":
    unittest.main()
