"""The pointer on its paper: reads a list of calls and answers them one behind another."""

# Corners lie from 0 to EDGE each way, so squares from 0 to EDGE - 1.
EDGE = 8
LONGEST_WAY = 40

STEP_RIGHT = 0
STEP_LEFT = 1
STEP_UP = 2
STEP_DOWN = 3

# By a step: the one that takes it back.
BACK_OF = (1, 0, 3, 2)

BEGIN = 0
GO = 1
ZERO = 2
AREA = 3
ROUND = 4
SQUARES = 5
CORNERS = 6
BETWEEN = 7
STRAIGHT = 8
SHORTEST = 9
HOME = 10

# By a call's number: how many whole numbers it has, and how many ways behind these.
NUMBERS_OF = (2, 0, 0, 0, 2, 0, 0, 0, 0, 1, 0, 0)
WAYS_OF = (0, 1, 0, 1, 1, 1, 1, 2, 1, 0, 0, 0)

NOT_LET = -1
NO_SUCH_SQUARE = -2
# Two ways of between that end apart make no loop either, out along the one and back along the other.
NO_LOOP = -6
NO_PAPER = -9


def end_of(right, up, way):
    """The corner that a way from the corner (right, up) ends at."""
    return (
        right + way.count(STEP_RIGHT) - way.count(STEP_LEFT),
        up + way.count(STEP_UP) - way.count(STEP_DOWN),
    )


def is_on_paper(corner):
    return 0 <= corner[0] <= EDGE and 0 <= corner[1] <= EDGE


def is_way(right, up, way):
    """Whether these numbers are a way from the corner (right, up), on the paper all along."""
    if len(way) > LONGEST_WAY:
        return False
    corner = (right, up)
    for step in way:
        if step > STEP_DOWN:
            return False
        corner = end_of(corner[0], corner[1], [step])
        if not is_on_paper(corner):
            return False
    return True


def is_loop(right, up, way):
    return end_of(right, up, way) == (right, up)


def upright_steps(right, up, way):
    """The way's steps up and down, each as: how far right it lies, the height of the squares beside it, 1 or -1."""
    found = []
    for step in way:
        if step == STEP_RIGHT:
            right += 1
        elif step == STEP_LEFT:
            right -= 1
        elif step == STEP_UP:
            found.append((right, up, 1))
            up += 1
        else:
            # A step down ends where the squares beside it begin.
            up -= 1
            found.append((right, up, -1))
    return found


def turning(right, up, way):
    """By how much a way from the corner (right, up) turns the wheel."""
    turned = 0
    for side, height, sense in upright_steps(right, up, way):
        turned += side * sense
    return turned


def times_round(square_right, square_up, uprights):
    """How often a loop with these upright steps goes round that square."""
    often = 0
    for side, height, sense in uprights:
        if height == square_up and side > square_right:
            often += sense
    return often


def corners_come_to(right, up, way):
    """The corners that a way from the corner (right, up) comes to, each once, as a dict of True."""
    corner = (right, up)
    found = {corner: True}
    for step in way:
        corner = end_of(corner[0], corner[1], [step])
        found[corner] = True
    return found


def straightened(way):
    """What is left of a way if no step is to be taken back by the one behind it."""
    # A step is kept till one takes it back, so what lay between the two is gone by then.
    kept = []
    for step in way:
        if len(kept) > 0 and kept[-1] == BACK_OF[step]:
            kept.pop()
        else:
            kept.append(step)
    return kept


def row_length(squares):
    """The least number whose square is that many squares or more."""
    length = 0
    while length * length < squares:
        length += 1
    return length


def loop_round(squares):
    """The steps of a shortest loop round that many squares, along the bottom to the right first."""
    # Rows of no squares can't be counted by dividing.
    if squares == 0:
        return []
    length = row_length(squares)
    full_rows = squares // length
    rest = squares % length
    outwards = [STEP_RIGHT] * length + [STEP_UP] * full_rows
    if rest == 0:
        return outwards + [STEP_LEFT] * length + [STEP_DOWN] * full_rows
    ledge = [STEP_LEFT] * (length - rest) + [STEP_UP]
    return outwards + ledge + [STEP_LEFT] * rest + [STEP_DOWN] * (full_rows + 1)


class Pointer:
    """The pointer with its paper, if there is one, and its wheel; each call answers a list of numbers."""

    def __init__(self):
        self.has_paper = False
        self.right = 0
        self.up = 0
        self.wheel = 0
        self.steps_made = 0

    def begin(self, right, up):
        if right > EDGE or up > EDGE:
            return [NOT_LET]
        self.has_paper = True
        self.right = right
        self.up = up
        self.wheel = 0
        self.steps_made = 0
        return [0]

    def walk(self, way):
        """Leads the pointer along a way, and the wheel turns along."""
        self.wheel += turning(self.right, self.up, way)
        self.steps_made += len(way)
        end = end_of(self.right, self.up, way)
        self.right = end[0]
        self.up = end[1]

    def go(self, way):
        if not is_way(self.right, self.up, way):
            return [NOT_LET]
        self.walk(way)
        return [self.right, self.up, self.wheel]

    def zero(self):
        said = self.wheel
        self.wheel = 0
        return [0, said]

    def area(self, way):
        if not is_way(self.right, self.up, way):
            return [NOT_LET]
        if not is_loop(self.right, self.up, way):
            return [NO_LOOP]
        return [0, turning(self.right, self.up, way)]

    def round_square(self, square_right, square_up, way):
        if not is_way(self.right, self.up, way):
            return [NOT_LET]
        if square_right >= EDGE or square_up >= EDGE:
            return [NO_SUCH_SQUARE]
        if not is_loop(self.right, self.up, way):
            return [NO_LOOP]
        return [0, times_round(square_right, square_up, upright_steps(self.right, self.up, way))]

    def squares(self, way):
        if not is_way(self.right, self.up, way):
            return [NOT_LET]
        if not is_loop(self.right, self.up, way):
            return [NO_LOOP]
        uprights = upright_steps(self.right, self.up, way)
        many = 0
        most = 0
        for square_right in range(EDGE):
            for square_up in range(EDGE):
                often = abs(times_round(square_right, square_up, uprights))
                if often > 0:
                    many += 1
                most = max(most, often)
        return [many, most]

    def corners(self, way):
        if not is_way(self.right, self.up, way):
            return [NOT_LET]
        if not is_loop(self.right, self.up, way):
            return [NO_LOOP]
        uprights = upright_steps(self.right, self.up, way)
        come_to = corners_come_to(self.right, self.up, way)
        within = 0
        # The squares that touch a corner which the way doesn't come to are all gone round equally often, and on the
        # paper's edge not at all: one of them tells for all, and the inner corners are enough.
        for right in range(1, EDGE):
            for up in range(1, EDGE):
                if (right, up) not in come_to and times_round(right, up, uprights) != 0:
                    within += 1
        return [within, len(come_to)]

    def between(self, first, second):
        if not is_way(self.right, self.up, first) or not is_way(self.right, self.up, second):
            return [NOT_LET]
        if end_of(self.right, self.up, first) != end_of(self.right, self.up, second):
            return [NO_LOOP]
        return [0, turning(self.right, self.up, first) - turning(self.right, self.up, second)]

    def straight(self, way):
        if not is_way(self.right, self.up, way):
            return [NOT_LET]
        left = straightened(way)
        return [len(left)] + left

    def shortest(self, squares):
        if squares > EDGE * EDGE:
            return [NOT_LET]
        loop = loop_round(squares)
        return [len(loop)] + loop

    def home(self):
        way = [STEP_LEFT] * self.right + [STEP_DOWN] * self.up
        self.walk(way)
        return [len(way)] + way

    def look(self):
        return [self.right, self.up, self.steps_made, self.wheel]

    def answer(self, call):
        """What one call, as split_calls gives it, answers."""
        number = call[0]
        if number == BEGIN:
            return self.begin(call[1], call[2])
        if not self.has_paper:
            return [NO_PAPER]
        if number == GO:
            return self.go(call[1])
        if number == ZERO:
            return self.zero()
        if number == AREA:
            return self.area(call[1])
        if number == ROUND:
            return self.round_square(call[1], call[2], call[3])
        if number == SQUARES:
            return self.squares(call[1])
        if number == CORNERS:
            return self.corners(call[1])
        if number == BETWEEN:
            return self.between(call[1], call[2])
        if number == STRAIGHT:
            return self.straight(call[1])
        if number == SHORTEST:
            return self.shortest(call[1])
        if number == HOME:
            return self.home()
        return self.look()


def split_calls(calls):
    """Each call as a list of its own: its number, its whole numbers, then its ways as lists."""
    found = []
    at = 0
    while at < len(calls):
        number = calls[at]
        ways_begin = at + 1 + NUMBERS_OF[number]
        call = calls[at:ways_begin]
        at = ways_begin
        for nth in range(WAYS_OF[number]):
            way_end = at + 1 + calls[at]
            call.append(calls[at + 1:way_end])
            at = way_end
        found.append(call)
    return found


def answers(calls):
    """For each call, in order: how many numbers it answers, then these."""
    pointer = Pointer()
    told = []
    for call in split_calls(calls):
        answered = pointer.answer(call)
        told.append(len(answered))
        told.extend(answered)
    return told
