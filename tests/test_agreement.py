"""Points 2, 4 to 9 and 11 on many ways, against the same numbers gained in other ways."""
import random
import unittest

from line import area, ask, begin, between, corners, go, home, look, round_square, squares, steps, straight

MOVES = {"r": (1, 0), "l": (-1, 0), "u": (0, 1), "d": (0, -1)}
OPPOSITE = {"r": "l", "l": "r", "u": "d", "d": "u"}


def some_loop(source, right, up):
    """A way on the paper that comes back: out at will, home by whatever steps are left to make."""
    corner = [right, up]
    text = ""
    for _ in range(source.randrange(0, 27)):
        sign = source.choice("rlud")
        if all(0 <= corner[k] + MOVES[sign][k] <= 8 for k in (0, 1)):
            corner = [corner[k] + MOVES[sign][k] for k in (0, 1)]
            text += sign
    back = ["l"] * (corner[0] - right) + ["r"] * (right - corner[0])
    back += ["d"] * (corner[1] - up) + ["u"] * (up - corner[1])
    source.shuffle(back)
    return text + "".join(back)


def often_by_steps_below(start, text, square):
    """Steps to the right below a square, less those to the left: how often it is gone round, seen from below."""
    right, up = start
    often = 0
    for sign in text:
        if up <= square[1]:
            often += (sign == "r" and right == square[0]) - (sign == "l" and right == square[0] + 1)
        right += MOVES[sign][0]
        up += MOVES[sign][1]
    return often


def corners_of(start, text):
    """The corners of a way, in order, as often as it comes to them."""
    found = [start]
    for sign in text:
        found.append((found[-1][0] + MOVES[sign][0], found[-1][1] + MOVES[sign][1]))
    return found


def corners_by_squares(start, text):
    """What corners is to answer, from all the squares that touch a corner."""
    come_to = set(corners_of(start, text))
    within = 0
    for right in range(9):
        for up in range(9):
            around = [(right - back, up - below) for back in (0, 1) for below in (0, 1)]
            touching = [place for place in around if min(place) >= 0 and max(place) <= 7]
            gone_round = all(often_by_steps_below(start, text, place) != 0 for place in touching)
            if (right, up) not in come_to and gone_round:
                within += 1
    return [within, len(come_to)]


def straightened_at_random(source, text):
    """Any two steps that may be left out, whichever come first, till there are none."""
    places = [True]
    while places:
        places = [at for at in range(len(text) - 1) if text[at + 1] == OPPOSITE[text[at]]]
        if places:
            at = source.choice(places)
            text = text[:at] + text[at + 2:]
    return text


def reversed_way(text):
    return "".join(OPPOSITE[sign] for sign in reversed(text))


class Agreement(unittest.TestCase):
    def test_many_loops(self):
        for source, start, text in self.loops(62, 300):
            expected = [often_by_steps_below(start, text, (k % 8, k // 8)) for k in range(64)]
            calls = [round_square(k % 8, k // 8, text) for k in range(64)]
            told = ask(begin(*start), *calls[:32])[1:] + ask(begin(*start), *calls[32:])[1:]
            self.assertEqual(told, [[0, often] for often in expected], text)
            gone = [abs(often) for often in expected if often != 0]
            told = ask(begin(*start), area(text), squares(text), go(text))
            turned = sum(expected)
            self.assertEqual(told, [[0], [0, turned], [len(gone), max(gone, default=0)], [*start, turned]], text)

    def loops(self, seed, many):
        source = random.Random(seed)
        found = []
        while len(found) < many:
            start = (source.randrange(9), source.randrange(9))
            text = some_loop(source, *start)
            if len(text) <= 40:
                found.append((source, start, text))
        return found

    def test_the_corners_of_many_loops(self):
        for source, start, text in self.loops(7, 500):
            told = ask(begin(*start), corners(text), look())
            self.assertEqual(told[1:], [corners_by_squares(start, text), [*start, 0, 0]], text)

    def test_what_lies_between_many_ways(self):
        for source, start, text in self.loops(8, 500):
            at = source.randrange(len(text) + 1)
            first = text[:at]
            second = reversed_way(text[at:])
            told = ask(begin(*start), between(first, second), between(second, first), area(text), look())
            turned = told[3][1]
            self.assertEqual(told[1:], [[0, turned], [0, -turned], [0, turned], [*start, 0, 0]], text)
            by_go = ask(begin(*start), go(first))[1], ask(begin(*start), go(second))[1]
            self.assertEqual(by_go[0][2] - by_go[1][2], turned)

    def test_what_is_left_of_many_ways(self):
        for source, start, text in self.loops(9, 500):
            for whole in (text, text[:source.randrange(len(text) + 1)]):
                told = ask(begin(*start), straight(whole), look())
                self.assertEqual(told[1:], [steps(straightened_at_random(source, whole)), [*start, 0, 0]], whole)

    def test_home_from_the_end_of_many_ways(self):
        for source, start, text in self.loops(11, 200):
            whole = text[:source.randrange(len(text) + 1)]
            end = corners_of(start, whole)[-1]
            told = ask(begin(*start), go(whole), home(), look())
            self.assertEqual(told[1][:2], [*end], whole)
            self.assertEqual(told[2], steps("l" * end[0] + "d" * end[1]), whole)
            self.assertEqual(told[3], [0, 0, len(whole) + sum(end), told[1][2]], whole)


if __name__ == "__main__":
    unittest.main()
