"""Point 9."""
import unittest

from line import ask, begin, go, last, look, steps, straight


class Straight(unittest.TestCase):
    def left(self, text, start=(4, 4)):
        return last(begin(*start), straight(text))

    def test_each_step_is_taken_back_by_its_own_opposite(self):
        opposites = ("rl", "lr", "ud", "du")
        for first in "rlud":
            for second in "rlud":
                text = first + second
                expected = steps("") if text in opposites else steps(text)
                self.assertEqual(self.left(text), expected, text)

    def test_what_isnt_taken_back_is_left_as_it_is(self):
        for text in ("r", "l", "u", "d", "ruld", "urdl", "rruulldd", "ruld" * 10, "rruurrdd", "ruur"):
            self.assertEqual(self.left(text), steps(text))

    def test_a_step_that_is_taken_back_later_is_left(self):
        self.assertEqual(self.left("rul"), steps("rul"))
        self.assertEqual(self.left("urrd"), steps("urrd"))
        self.assertEqual(self.left("rudrl"), steps("r"))

    def test_to_and_fro(self):
        self.assertEqual(self.left("rlr"), steps("r"))
        self.assertEqual(self.left("udududu"), steps("u"))
        self.assertEqual(self.left("rrl"), steps("r"))
        self.assertEqual(self.left("lrr"), steps("r"))
        self.assertEqual(self.left("urlu"), steps("uu"))

    def test_steps_taken_back_within_steps_taken_back(self):
        self.assertEqual(self.left("rudl"), steps(""))
        self.assertEqual(self.left("rrudll"), steps(""))
        self.assertEqual(self.left("rulrdl"), steps(""))
        self.assertEqual(self.left("urulrdlu"), steps("uu"))
        self.assertEqual(self.left("ruudlrdlu"), steps("u"))
        self.assertEqual(self.left("ruldurdl"), steps(""))
        self.assertEqual(self.left("rurrlldllrrr"), steps("rr"))

    def test_till_there_are_none_left(self):
        self.assertEqual(self.left("rruullddu" + "urrddllru"), steps("ru"))
        self.assertEqual(self.left("rruulldd" + "uurrddll"), steps(""))
        self.assertEqual(self.left("rruuldluurrdrdll"), steps("rruuldluurrdrdll"))

    def test_of_no_steps(self):
        for right in (0, 8):
            for up in (0, 8):
                self.assertEqual(self.left("", (right, up)), steps(""))

    def test_of_40_steps(self):
        self.assertEqual(self.left("rl" * 20), steps(""))
        self.assertEqual(self.left("r" * 8 + "u" * 8 + "d" * 8 + "l" * 8 + "rrrruuuu", (0, 0)), steps("rrrruuuu"))
        self.assertEqual(self.left("rruu" + "rl" * 18), steps("rruu"))
        self.assertEqual(self.left("rl" * 18 + "rruu"), steps("rruu"))

    def test_a_loop_need_not_be(self):
        self.assertEqual(self.left("rrrr"), steps("rrrr"))
        self.assertEqual(self.left("rruurrd"), steps("rruurrd"))

    def test_begins_where_the_pointer_is_which_stays(self):
        told = ask(begin(2, 2), go("u"), straight("urd"), look(), straight("rrl"), look())
        self.assertEqual(told, [[0], [2, 3, 2], steps("urd"), [2, 3, 1, 2], steps("r"), [2, 3, 1, 2]])
        self.assertEqual(last(begin(7, 0), go("r"), straight("r")), [-1])
        self.assertEqual(last(begin(8, 0), go("l"), straight("r")), steps("r"))

    def test_no_way_is_refused(self):
        for text in ("rl" * 20 + "r", "rl" * 25, "4", "45", "r4l", "r9", "uuuuuddddd", "dddddu", "rrrrrlllll", "lllll"):
            self.assertEqual(ask(begin(4, 4), straight(text), look()), [[0], [-1], [4, 4, 0, 0]], text)

    def test_leaving_the_paper_is_refused_though_it_is_taken_back(self):
        for right, up, text in ((8, 4, "rl"), (0, 4, "lr"), (4, 8, "ud"), (4, 0, "du")):
            self.assertEqual(ask(begin(right, up), straight(text), look()), [[0], [-1], [right, up, 0, 0]])


if __name__ == "__main__":
    unittest.main()
