"""Point 8."""
import unittest

from line import area, ask, begin, between, go, last, look


class Between(unittest.TestCase):
    def test_two_ways_round_one_square(self):
        for right in range(8):
            for up in range(8):
                self.assertEqual(last(begin(right, up), between("ru", "ur")), [0, 1])
                self.assertEqual(last(begin(right, up), between("ur", "ru")), [0, -1])

    def test_two_ways_over_the_whole_paper(self):
        self.assertEqual(last(begin(0, 0), between("r" * 8 + "u" * 8, "u" * 8 + "r" * 8)), [0, 64])
        self.assertEqual(last(begin(0, 0), between("u" * 8 + "r" * 8, "r" * 8 + "u" * 8)), [0, -64])
        self.assertEqual(last(begin(8, 8), between("l" * 8 + "d" * 8, "d" * 8 + "l" * 8)), [0, 64])
        self.assertEqual(last(begin(0, 8), between("r" * 8 + "d" * 8, "d" * 8 + "r" * 8)), [0, -64])
        self.assertEqual(last(begin(8, 0), between("u" * 8 + "l" * 8, "l" * 8 + "u" * 8)), [0, 64])

    def test_ways_that_arent_equally_long(self):
        self.assertEqual(last(begin(3, 3), between("u", "rul")), [0, -1])
        self.assertEqual(last(begin(3, 3), between("rrull", "u")), [0, 2])
        self.assertEqual(last(begin(3, 3), between("rrull", "llurr")), [0, 4])
        self.assertEqual(last(begin(3, 3), between("d", "lldrr")), [0, -2])

    def test_ways_that_cross(self):
        self.assertEqual(last(begin(1, 1), between("ruur", "urru")), [0, 0])
        self.assertEqual(last(begin(1, 1), between("ruurru", "urruur")), [0, 1])

    def test_no_step_beside_a_loop(self):
        self.assertEqual(last(begin(2, 5), between("", "")), [0, 0])
        self.assertEqual(last(begin(2, 5), between("rruulldd", "")), [0, 4])
        self.assertEqual(last(begin(2, 5), between("", "rruulldd")), [0, -4])
        self.assertEqual(last(begin(2, 5), between("ruld" * 10, "urdl" * 10)), [0, 20])

    def test_of_one_way_twice(self):
        for text in ("", "r", "l", "u", "d", "rruuldd", "ud" * 20):
            self.assertEqual(last(begin(4, 4), between(text, text)), [0, 0])

    def test_it_is_the_area_of_the_first_out_and_the_second_back(self):
        told = ask(begin(4, 4), between("rruul", "luurr"), area("rruul" + "llddr"))
        self.assertEqual(told[1:], [[0, 6], [0, 6]])

    def test_begins_where_the_pointer_is_which_stays(self):
        told = ask(begin(2, 2), go("u"), between("rru", "urr"), look(), between("l", "dlu"), look())
        self.assertEqual(told, [[0], [2, 3, 2], [0, 2], [2, 3, 1, 2], [0, 1], [2, 3, 1, 2]])

    def test_ways_of_40_steps(self):
        self.assertEqual(last(begin(8, 4), between("ud" * 20, "du" * 20)), [0, 0])
        self.assertEqual(last(begin(0, 0), between("ruld" * 9 + "ruru", "ruld" * 5 + "ur" * 2)), [0, 4 + 2])

    def test_ways_that_end_apart_are_refused(self):
        apart = (("r", ""), ("", "u"), ("r", "l"), ("u", "d"), ("ru", "rd"), ("ru", "lu"), ("rrl", "l"), ("ud", "uu"))
        for first, second in apart:
            self.assertEqual(ask(begin(4, 4), between(first, second), look()), [[0], [-6], [4, 4, 0, 0]])

    def test_ends_that_are_each_others_mirror_are_apart(self):
        self.assertEqual(last(begin(4, 4), between("ruu", "rru")), [-6])
        self.assertEqual(last(begin(1, 2), between("r", "l")), [-6])

    def test_no_way_is_refused_be_it_the_first_or_the_second(self):
        for text in ("ruld" * 10 + "u", "ruld" * 10 + "ud", "ud" * 25, "4", "r4l", "uuuuuddddd", "dddddu", "rrrrr"):
            for other in ("", "r", "ruld", text):
                for call in (between(text, other), between(other, text)):
                    self.assertEqual(ask(begin(4, 4), call, look()), [[0], [-1], [4, 4, 0, 0]])

    def test_the_count_is_each_ways_own(self):
        for many in (39, 40, 41, 50):
            text = ("ud" * 25)[:many]
            expected = [0, 0] if many <= 40 else [-1]
            self.assertEqual(last(begin(8, 4), between(text, text)), expected)


if __name__ == "__main__":
    unittest.main()
