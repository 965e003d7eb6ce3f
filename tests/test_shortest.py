"""Point 10."""
import unittest

from line import area, ask, begin, corners, go, last, look, round_square, shortest, squares, steps

LETTERS = "rlud"


def squares_of(many):
    """So many squares, in rows as long as need be for a square, from below and from the left."""
    length = min(k for k in range(9) if k * k >= many)
    return [(nth % length, nth // length) for nth in range(many)]


def border_of(found):
    """Along the sides of these squares that aren't shared by two, with the squares at one's left hand."""
    sides = {}
    for right, up in found:
        if (right, up - 1) not in found:
            sides[right, up] = "r"
        if (right + 1, up) not in found:
            sides[right + 1, up] = "u"
        if (right, up + 1) not in found:
            sides[right + 1, up + 1] = "l"
        if (right - 1, up) not in found:
            sides[right, up + 1] = "d"
    corner = (0, 0)
    text = ""
    while corner in sides:
        sign = sides.pop(corner)
        text += sign
        move = {"r": (1, 0), "l": (-1, 0), "u": (0, 1), "d": (0, -1)}[sign]
        corner = (corner[0] + move[0], corner[1] + move[1])
    return text


def loop_of(many):
    return "".join(LETTERS[step] for step in last(begin(0, 0), shortest(many))[1:])


class Shortest(unittest.TestCase):
    def test_as_they_stand(self):
        loops = {
            0: "",
            1: "ruld",
            2: "rrulld",
            3: "rrululdd",
            4: "rruulldd",
            5: "rrrululldd",
            6: "rrruullldd",
            7: "rrruullulddd",
            8: "rrruulullddd",
            9: "rrruuulllddd",
            10: "rrrruullullddd",
            13: "rrrruuullluldddd",
            50: "r" * 8 + "u" * 6 + "l" * 6 + "u" + "l" * 2 + "d" * 7,
            63: "r" * 8 + "u" * 7 + "l" + "u" + "l" * 7 + "d" * 8,
            64: "r" * 8 + "u" * 8 + "l" * 8 + "d" * 8,
        }
        for many, text in loops.items():
            self.assertEqual(ask(begin(0, 0), shortest(many)), [[0], steps(text)], many)

    def test_each_goes_along_the_border_of_its_squares(self):
        for many in range(65):
            self.assertEqual(last(begin(0, 0), shortest(many)), steps(border_of(squares_of(many))), many)

    def test_each_goes_round_just_its_squares_and_each_once(self):
        for many in range(65):
            text = loop_of(many)
            found = squares_of(many)
            told = ask(begin(0, 0), area(text), squares(text))
            self.assertEqual(told[1:], [[0, many], [many, min(many, 1)]], many)
            for up in range(8):
                told = ask(begin(0, 0), *[round_square(right, up, text) for right in range(8)])
                self.assertEqual(told[1:], [[0, int((right, up) in found)] for right in range(8)], many)

    def test_each_comes_to_no_corner_twice(self):
        for many in range(1, 65):
            text = loop_of(many)
            self.assertEqual(last(begin(0, 0), corners(text))[1], len(text))

    def test_none_has_fewer_steps(self):
        # A loop needs as many steps as the least rectangle about it, and that has room for its squares.
        for many in range(1, 65):
            least = min(2 * (wide + high) for wide in range(1, 9) for high in range(1, 9) if wide * high >= many)
            self.assertEqual(last(begin(0, 0), shortest(many))[0], least, many)

    def test_wherever_the_pointer_is(self):
        for many in (0, 1, 7, 64):
            expected = last(begin(0, 0), shortest(many))
            for right in range(9):
                for up in range(9):
                    self.assertEqual(last(begin(right, up), shortest(many)), expected)
            self.assertEqual(last(begin(0, 0), go("rruu"), shortest(many)), expected)

    def test_the_pointer_stays(self):
        told = ask(begin(2, 2), go("u"), shortest(5), look(), shortest(0), look())
        self.assertEqual(told, [[0], [2, 3, 2], steps("rrrululldd"), [2, 3, 1, 2], [0], [2, 3, 1, 2]])

    def test_more_than_64_are_refused(self):
        for many in range(65, 100):
            self.assertEqual(ask(begin(2, 2), go("u"), shortest(many), look())[2:], [[-1], [2, 3, 1, 2]])


if __name__ == "__main__":
    unittest.main()
