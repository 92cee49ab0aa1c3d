"""What the tests share: calls by name, answers split, and some views."""

from fractions import Fraction

from floorunroll.picture import answers

LEAST = -2147483648
MOST = 2147483647

NAMES = ("start mark unmark ready unroll seen off fits"
         " horizon side middle apart part line straight state").split()
NUMBERS = {name: number for number, name in enumerate(NAMES)}

# How many numbers of a place or a point each call has that has any.
POINT_NUMBERS = {"mark": 4, "unroll": 2, "seen": 2, "side": 2, "middle": 4, "apart": 4, "part": 6, "line": 4,
                 "straight": 6}

START = ("start",)
READY = ("ready",)
FITS = ("fits",)
HORIZON = ("horizon",)
STATE = ("state",)

# The floor's square seen as a trapezium: u is (100x + 50y) / (10 + y), v is
# 100y / (10 + y), and the horizon is where v is 100.
TILTED = [(0, 0, 0, 0), (10, 0, 100, 0), (10, 10, 75, 50), (0, 10, 25, 50)]

# The same with 20 - y for y, so that the places with y = 30 are seen beyond all.
TURNED = [(0, 20, 0, 0), (10, 20, 100, 0), (10, 10, 75, 50), (0, 10, 25, 50)]

# The trapezium half as high: u is (100x + 50y) / (10 + y), v is 50y / (10 + y),
# and the horizon is where v is 50, with points of the picture behind it.
LOW = [(0, 0, 0, 0), (10, 0, 100, 0), (10, 10, 75, 25), (0, 10, 25, 25)]

# The same with y - 40 for y, and the first two marks behind the horizon.
BOTH_SIDES = [(0, 10, 75, 75), (10, 10, 25, 75), (0, 40, 0, 0), (10, 40, 100, 0)]

# From straight above: u is 2x + 20, v is 2y + 20.
ABOVE = [(0, 0, 20, 20), (10, 0, 40, 20), (10, 10, 40, 40), (0, 10, 20, 40)]

# No two of its numbers have much in common.
CROOKED = [(100, 6, 14, 6), (93, 37, 45, 80), (26, 81, 97, 17), (1, 4, 0, 43)]

ALL_FOURS = (TILTED, TURNED, LOW, BOTH_SIDES, ABOVE, CROOKED)

# Three of the places are on a line, or three of the points.
BAD_PLACES = [(0, 0, 0, 0), (5, 5, 100, 0), (10, 10, 75, 50), (0, 10, 25, 50)]
BAD_POINTS = [(0, 0, 0, 0), (100, 0, 5, 5), (75, 50, 10, 10), (25, 50, 0, 10)]
NOT_READY = ([], TILTED[:3], BAD_PLACES, BAD_POINTS, BAD_PLACES + TILTED)


def flat(calls):
    """The calls, told by name, as the list that is handed in."""
    numbers = []
    for call in calls:
        numbers.append(NUMBERS[call[0]])
        numbers.extend(call[1:])
    return numbers


def split(numbers):
    """The list that is given back, answer by answer."""
    found = []
    at = 0
    while at < len(numbers):
        behind = at + 1 + numbers[at]
        if numbers[at] < 1 or behind > len(numbers):
            raise AssertionError(f"a count that can't be at {at}: {numbers}")
        found.append(numbers[at + 1:behind])
        at = behind
    return found


def said(calls):
    """What the calls answer, a list for each."""
    found = split(answers(flat(calls)))
    if len(found) != len(calls):
        raise AssertionError(f"{len(calls)} calls, {len(found)} answers")
    return found


def marked(marks):
    """A start, and the marks behind it."""
    return [START] + [("mark",) + tuple(mark) for mark in marks]


def asked(marks, calls):
    """What the calls answer behind a start and the marks, however many calls."""
    found = []
    for at in range(0, len(calls), 150):
        found.extend(said(marked(marks) + calls[at:at + 150])[1 + len(marks):])
    return found


def whole(*numbers):
    """The answer 0, then whole numbers as fractions."""
    found = [0]
    for number in numbers:
        found.extend([number, 1])
    return found


def points_of(answer):
    """The two fractions behind a 0."""
    return Fraction(answer[1], answer[2]), Fraction(answer[3], answer[4])


def area(first, second, third):
    """Twice the area of a triangle, 0 where the three are on a line."""
    return ((second[0] - first[0]) * (third[1] - first[1])
            - (second[1] - first[1]) * (third[0] - first[0]))


class Steps:
    """Numbers that look mixed and are the same each time."""

    def __init__(self, seed):
        self.now = seed

    def below(self, limit):
        self.now = (self.now * 6364136223846793005 + 1442695040888963407) % 2 ** 64
        return (self.now >> 33) % limit
