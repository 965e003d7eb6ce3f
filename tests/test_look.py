"""Point 12."""
import unittest

from line import (
    area, ask, begin, between, corners, go, home, last, look, round_square, shortest, squares, straight, zero,
)


class Look(unittest.TestCase):
    def test_on_new_paper(self):
        for right in range(9):
            for up in range(9):
                self.assertEqual(last(begin(right, up), look()), [right, up, 0, 0])

    def test_after_go(self):
        self.assertEqual(last(begin(3, 5), go("r"), look()), [4, 5, 1, 0])
        self.assertEqual(last(begin(3, 5), go("u"), look()), [3, 6, 1, 3])
        self.assertEqual(last(begin(3, 5), go("d"), look()), [3, 4, 1, -3])
        self.assertEqual(last(begin(3, 5), go(""), look()), [3, 5, 0, 0])
        self.assertEqual(last(begin(3, 5), go("rl" * 20), look()), [3, 5, 40, 0])

    def test_steps_are_all_since_begin(self):
        told = ask(begin(1, 1), go("ru"), look(), go("uud"), look(), home(), look(), go("r"), home(), look())
        self.assertEqual(told[2::2], [[2, 2, 2, 2], [2, 3, 5, 4], [0, 0, 10, 4], [1, 1]])
        self.assertEqual(told[-1], [0, 0, 12, 4])

    def test_steps_of_many_goes(self):
        once_round = "r" * 8 + "u" * 8 + "l" * 8 + "d" * 8
        self.assertEqual(last(begin(0, 0), *[go(once_round)] * 58, look()), [0, 0, 58 * 32, 58 * 64])
        self.assertEqual(last(begin(8, 8), *[go("dudu" * 10)] * 58, look()), [8, 8, 58 * 40, 0])

    def test_after_home(self):
        self.assertEqual(last(begin(3, 5), home(), look()), [0, 0, 8, 0])
        self.assertEqual(last(begin(3, 5), go("u"), home(), look()), [0, 0, 10, 3])
        self.assertEqual(last(begin(3, 5), home(), home(), look()), [0, 0, 8, 0])

    def test_after_zero_the_steps_stay(self):
        told = ask(begin(3, 5), go("ur"), zero(), look(), go("u"), look(), zero(), home(), look())
        self.assertEqual(told[3], [4, 6, 2, 0])
        self.assertEqual(told[5], [4, 7, 3, 4])
        self.assertEqual(told[8], [0, 0, 14, 0])

    def test_after_another_begin(self):
        self.assertEqual(last(begin(3, 5), go("ur"), begin(3, 5), look()), [3, 5, 0, 0])
        self.assertEqual(last(begin(3, 5), go("ur"), home(), begin(8, 0), go("u"), look()), [8, 1, 1, 8])

    def test_after_a_refusal(self):
        for refused in (go("9"), go("uuuu"), begin(9, 9), area("r"), between("r", "u"), shortest(65), straight("4")):
            self.assertEqual(last(begin(3, 5), go("ur"), refused, look()), [4, 6, 2, 3])

    def test_after_what_only_tells(self):
        asked = [
            area("ruld"), round_square(4, 6, "ruld"), squares("ruld"), corners("ruld"), between("ru", "ur"),
            straight("rrl"), shortest(9), look(),
        ]
        for call in asked:
            told = ask(begin(3, 5), go("ur"), call, look())
            self.assertGreaterEqual(told[2][0], 0)
            self.assertEqual(told[3], [4, 6, 2, 3])
        self.assertEqual(last(begin(3, 5), go("ur"), *asked, look()), [4, 6, 2, 3])


if __name__ == "__main__":
    unittest.main()
