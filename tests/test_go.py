"""Point 2, and what a way may be."""
import unittest

from line import ask, begin, go, last, look, where, zero


class Go(unittest.TestCase):
    def test_each_step_goes_to_the_next_corner(self):
        self.assertEqual(last(begin(3, 5), go("r")), [4, 5, 0])
        self.assertEqual(last(begin(3, 5), go("l")), [2, 5, 0])
        self.assertEqual(last(begin(3, 5), go("u")), [3, 6, 3])
        self.assertEqual(last(begin(3, 5), go("d")), [3, 4, -3])

    def test_the_wheel_turns_by_how_far_right_a_step_lies(self):
        for right in range(9):
            self.assertEqual(last(begin(right, 0), go("u")), [right, 1, right])
            self.assertEqual(last(begin(right, 8), go("d")), [right, 7, -right])
            self.assertEqual(last(begin(right, 0), go("uuu")), [right, 3, 3 * right])

    def test_steps_to_the_right_and_left_dont_turn_it(self):
        self.assertEqual(last(begin(0, 7), go("rrrrrrrr")), [8, 7, 0])
        self.assertEqual(last(begin(8, 7), go("llllllll")), [0, 7, 0])

    def test_the_wheel_goes_on_from_what_it_said(self):
        told = ask(begin(0, 0), go("rru"), go("ru"), go("lld"), where())
        self.assertEqual(told, [[0], [2, 1, 2], [3, 2, 5], [1, 1, 4], [1, 1, 4]])

    def test_goes_on_from_where_the_pointer_is(self):
        told = ask(begin(7, 0), go("r"), go("r"), go("l"), go("r"))
        self.assertEqual(told, [[0], [8, 0, 0], [-1], [7, 0, 0], [8, 0, 0]])

    def test_its_steps_are_made(self):
        told = ask(begin(0, 0), go("rru"), look(), go(""), look(), go("lld"), look())
        self.assertEqual(told[2::2], [[2, 1, 3, 2], [2, 1, 3, 2], [0, 0, 6, 2]])

    def test_a_way_of_no_steps(self):
        self.assertEqual(last(begin(6, 2), go("u"), go("")), [6, 3, 6])

    def test_a_way_of_40_steps(self):
        self.assertEqual(last(begin(8, 0), go("ud" * 20)), [8, 0, 0])
        self.assertEqual(last(begin(0, 0), go("rrrrrrrruuuuuuuulllllllldddddddd" + "rrrruuuu")), [4, 4, 80])

    def test_more_than_40_steps_are_refused(self):
        for many in range(41, 51):
            text = ("ud" * 25)[:many]
            self.assertEqual(ask(begin(8, 0), go(text), where()), [[0], [-1], [8, 0, 0]])

    def test_a_step_that_isnt_0_to_3_is_refused(self):
        for step in "456789":
            for text in (step, step + "u", "u" + step, "ur" + step + "ld"):
                self.assertEqual(ask(begin(4, 4), go(text), where()), [[0], [-1], [4, 4, 0]])

    def test_goes_to_the_papers_edges_and_not_over_them(self):
        self.assertEqual(ask(begin(7, 3), go("r"), go("r")), [[0], [8, 3, 0], [-1]])
        self.assertEqual(ask(begin(1, 3), go("l"), go("l")), [[0], [0, 3, 0], [-1]])
        self.assertEqual(ask(begin(3, 7), go("u"), go("u")), [[0], [3, 8, 3], [-1]])
        self.assertEqual(ask(begin(3, 1), go("d"), go("d")), [[0], [3, 0, -3], [-1]])

    def test_leaving_the_paper_and_coming_back_is_refused(self):
        for right, up, text in ((8, 4, "rl"), (0, 4, "lr"), (4, 8, "ud"), (4, 0, "du"), (8, 8, "lruddudduuuud")):
            self.assertEqual(ask(begin(right, up), go(text), where()), [[0], [-1], [right, up, 0]])

    def test_leaving_the_paper_with_the_last_step_is_refused(self):
        told = ask(begin(5, 5), go("u"), go("uuu"), where(), zero())
        self.assertEqual(told, [[0], [5, 6, 5], [-1], [5, 6, 5], [0, 5]])


if __name__ == "__main__":
    unittest.main()
