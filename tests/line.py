"""For the tests: writes calls as the interface hands them in, and takes the answers apart."""
from wheelarea.pointer import answers

STEPS = {"r": 0, "l": 1, "u": 2, "d": 3}


def way(text):
    """A way from its letters: r, l, u, d; digits stand for themselves."""
    return [STEPS[sign] if sign in STEPS else int(sign) for sign in text]


def with_count(text):
    numbers = way(text)
    return [len(numbers)] + numbers


def begin(right, up):
    return [0, right, up]


def go(text):
    return [1] + with_count(text)


def zero():
    return [2]


def area(text):
    return [3] + with_count(text)


def round_square(right, up, text):
    return [4, right, up] + with_count(text)


def squares(text):
    return [5] + with_count(text)


def corners(text):
    return [6] + with_count(text)


def between(first, second):
    return [7] + with_count(first) + with_count(second)


def straight(text):
    return [8] + with_count(text)


def shortest(many):
    return [9, many]


def home():
    return [10]


def look():
    return [11]


def where():
    """Going nowhere tells where the pointer is and what the wheel says."""
    return go("")


def steps(text):
    """An answer of so many steps, ahead of them how many they are."""
    return with_count(text)


def joined(calls):
    line = []
    for call in calls:
        line += call
    return line


def parted(told):
    """The answers, each as a list, without the counts ahead of them."""
    found = []
    at = 0
    while at < len(told):
        end = at + 1 + told[at]
        if told[at] < 1 or end > len(told):
            raise AssertionError(f"the count at {at} is wrong: {told}")
        found.append(told[at + 1:end])
        at = end
    return found


def ask(*calls):
    return parted(answers(joined(calls)))


def last(*calls):
    return ask(*calls)[-1]
