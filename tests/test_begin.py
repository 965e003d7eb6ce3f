"""Point 1."""
import unittest

from line import ask, begin, go, home, last, look, where, zero


class Begin(unittest.TestCase):
    def test_answers_0(self):
        self.assertEqual(ask(begin(3, 5)), [[0]])

    def test_puts_the_pointer_there(self):
        for right in range(9):
            for up in range(9):
                self.assertEqual(ask(begin(right, up), where()), [[0], [right, up, 0]])

    def test_new_paper_instead_of_what_there_was(self):
        told = ask(begin(4, 4), go("uur"), begin(2, 1), where(), zero())
        self.assertEqual(told, [[0], [5, 6, 8], [0], [2, 1, 0], [0, 0]])

    def test_no_steps_are_made_on_new_paper(self):
        told = ask(begin(0, 0), go("ru"), go("u"), look(), begin(0, 0), look(), go("u"), home(), begin(1, 0), look())
        self.assertEqual(told[3], [1, 2, 3, 2])
        self.assertEqual(told[5], [0, 0, 0, 0])
        self.assertEqual(told[9], [1, 0, 0, 0])

    def test_refuses_a_number_above_8(self):
        for right in range(21):
            for up in range(21):
                expected = [0] if right <= 8 and up <= 8 else [-1]
                self.assertEqual(ask(begin(right, up)), [expected])

    def test_refused_it_changes_nothing(self):
        for right, up in ((9, 0), (0, 9), (9, 9), (20, 20)):
            told = last(begin(4, 4), go("uur"), begin(right, up), look())
            self.assertEqual(told, [5, 6, 3, 8])

    def test_refused_it_lays_no_paper(self):
        for right, up in ((9, 0), (0, 9), (20, 20)):
            self.assertEqual(ask(begin(right, up), zero(), where()), [[-1], [-9], [-9]])


if __name__ == "__main__":
    unittest.main()
