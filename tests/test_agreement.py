"""Points 2 and 4 to 6 on many ways, against the same numbers gained in other ways."""
import random
import unittest

from line import area, ask, begin, go, round_square, squares

MOVES = {"r": (1, 0), "l": (-1, 0), "u": (0, 1), "d": (0, -1)}


def some_loop(source, right, up):
    """A way on the paper that comes back: out at will, home by whatever steps are left to make."""
    corner = [right, up]
    text = ""
    for _ in range(source.randrange(0, 27)):
        sign = source.choice("rlud")
        if all(0 <= corner[k] + MOVES[sign][k] <= 8 for k in (0, 1)):
            corner = [corner[k] + MOVES[sign][k] for k in (0, 1)]
            text += sign
    back = ["l"] * (corner[0] - right) + ["r"] * (right - corner[0])
    back += ["d"] * (corner[1] - up) + ["u"] * (up - corner[1])
    source.shuffle(back)
    return text + "".join(back)


def often_by_steps_below(start, text, square):
    """Steps to the right below a square, less those to the left: how often it is gone round, seen from below."""
    right, up = start
    often = 0
    for sign in text:
        if up <= square[1]:
            often += (sign == "r" and right == square[0]) - (sign == "l" and right == square[0] + 1)
        right += MOVES[sign][0]
        up += MOVES[sign][1]
    return often


class Agreement(unittest.TestCase):
    def test_many_loops(self):
        source = random.Random(62)
        tried = 0
        while tried < 300:
            start = (source.randrange(9), source.randrange(9))
            text = some_loop(source, *start)
            if len(text) > 40:
                continue
            tried += 1
            expected = [often_by_steps_below(start, text, (k % 8, k // 8)) for k in range(64)]
            calls = [round_square(k % 8, k // 8, text) for k in range(64)]
            told = ask(begin(*start), *calls[:32])[1:] + ask(begin(*start), *calls[32:])[1:]
            self.assertEqual(told, [[0, often] for often in expected], text)
            gone = [abs(often) for often in expected if often != 0]
            told = ask(begin(*start), area(text), squares(text), go(text))
            turned = sum(expected)
            self.assertEqual(told, [[0], [0, turned], [len(gone), max(gone, default=0)], [*start, turned]], text)


if __name__ == "__main__":
    unittest.main()
