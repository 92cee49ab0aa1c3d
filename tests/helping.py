"""What the tests share: calls by name, answers split, and an independent model."""

from fractions import Fraction

from floorunroll.picture import answers

LEAST = -2147483648
MOST = 2147483647

NUMBERS = {"start": 0, "mark": 1, "unmark": 2, "ready": 3, "unroll": 4, "seen": 5, "off": 6, "fits": 7}

START = ("start",)
READY = ("ready",)
FITS = ("fits",)

# The floor's square seen as a trapezium: u is (100x + 50y) / (10 + y), v is
# 100y / (10 + y), and the horizon is where v is 100.
TILTED = [(0, 0, 0, 0), (10, 0, 100, 0), (10, 10, 75, 50), (0, 10, 25, 50)]

# The same with 20 - y for y, so that the places with y = 30 are seen beyond all.
TURNED = [(0, 20, 0, 0), (10, 20, 100, 0), (10, 10, 75, 50), (0, 10, 25, 50)]

# From straight above: u is 2x + 20, v is 2y + 20.
ABOVE = [(0, 0, 20, 20), (10, 0, 40, 20), (10, 10, 40, 40), (0, 10, 20, 40)]

# No two of its numbers have much in common.
CROOKED = [(100, 6, 14, 6), (93, 37, 45, 80), (26, 81, 97, 17), (1, 4, 0, 43)]


def flat(calls):
    """The calls, told by name, as the list that is handed in."""
    numbers = []
    for call in calls:
        numbers.append(NUMBERS[call[0]])
        numbers.extend(call[1:])
    return numbers


def split(numbers):
    """The list that is given back, answer by answer."""
    found = []
    at = 0
    while at < len(numbers):
        behind = at + 1 + numbers[at]
        if numbers[at] < 1 or behind > len(numbers):
            raise AssertionError(f"a count that can't be at {at}: {numbers}")
        found.append(numbers[at + 1:behind])
        at = behind
    return found


def said(calls):
    """What the calls answer, a list for each."""
    found = split(answers(flat(calls)))
    if len(found) != len(calls):
        raise AssertionError(f"{len(calls)} calls, {len(found)} answers")
    return found


def marked(marks):
    """A start, and the marks behind it."""
    return [START] + [("mark",) + tuple(mark) for mark in marks]


def asked(marks, calls):
    """What the calls answer behind a start and the marks, however many calls."""
    found = []
    for at in range(0, len(calls), 150):
        found.extend(said(marked(marks) + calls[at:at + 150])[1 + len(marks):])
    return found


def whole(*numbers):
    """The answer 0, then whole numbers as fractions."""
    found = [0]
    for number in numbers:
        found.extend([number, 1])
    return found


def points_of(answer):
    """The two fractions behind a 0."""
    return Fraction(answer[1], answer[2]), Fraction(answer[3], answer[4])


def area(first, second, third):
    """Twice the area of a triangle, 0 where the three are on a line."""
    return ((second[0] - first[0]) * (third[1] - first[1])
            - (second[1] - first[1]) * (third[0] - first[0]))


def null_vector(rows, width):
    """The one solution, up to a factor, of equations that all are 0."""
    rows = [[Fraction(number) for number in row] for row in rows]
    pivots = []
    for column in range(width):
        at = len(pivots)
        below = [k for k in range(at, len(rows)) if rows[k][column] != 0]
        if not below:
            continue
        rows[at], rows[below[0]] = rows[below[0]], rows[at]
        rows[at] = [number / rows[at][column] for number in rows[at]]
        for k, row in enumerate(rows):
            if k != at:
                rows[k] = [a - row[column] * b for a, b in zip(row, rows[at])]
        pivots.append(column)
    free = [column for column in range(width) if column not in pivots]
    if len(free) != 1:
        raise AssertionError("not just one solution")
    found = [Fraction(0)] * width
    found[free[0]] = Fraction(1)
    for at, column in enumerate(pivots):
        found[column] = -rows[at][free[0]]
    return found


def solved_view(pairs):
    """The nine numbers of the view that takes four points to four others."""
    rows = []
    for (x, y), (u, v) in pairs:
        rows.append([x, y, 1, 0, 0, 0, -u * x, -u * y, -u])
        rows.append([0, 0, 0, x, y, 1, -v * x, -v * y, -v])
    return null_vector(rows, 9)


def viewed(view, point):
    """Where a view takes a point; None beyond all."""
    x, y = point
    a, b, c = [view[k] * x + view[k + 1] * y + view[k + 2] for k in (0, 3, 6)]
    return None if c == 0 else (a / c, b / c)


def told_pair(pair):
    """A point as it is to be answered."""
    if pair is None:
        return [-6]
    u, v = Fraction(pair[0]), Fraction(pair[1])
    return [0, u.numerator, u.denominator, v.numerator, v.denominator]


class Model:
    """The document's words once more, by equations instead of frames."""

    def __init__(self):
        self.marks = None
        self.views = {}

    def ready(self):
        if len(self.marks) < 4:
            return False
        for left_out in range(4):
            three = [self.marks[k] for k in range(4) if k != left_out]
            if area(*[mark[:2] for mark in three]) == 0 or area(*[mark[2:] for mark in three]) == 0:
                return False
        return True

    def take(self, point, back):
        key = (tuple(self.marks[:4]), back)
        if key not in self.views:
            pairs = [(mark[2:], mark[:2]) if back else (mark[:2], mark[2:]) for mark in self.marks[:4]]
            self.views[key] = solved_view(pairs)
        return viewed(self.views[key], point)

    def off(self, mark):
        seen = self.take(mark[:2], False)
        return None if seen is None else (seen[0] - mark[2], seen[1] - mark[3])

    def answer(self, call):
        name, numbers = call[0], call[1:]
        if name == "start":
            self.marks = []
            return [0]
        if self.marks is None:
            return [-11]
        if name in ("mark", "unroll", "seen") and (min(numbers) < 0 or max(numbers) > 100):
            return [-22]
        if name == "mark" and len(self.marks) > 7:
            return [-28]
        if name == "mark":
            self.marks = self.marks + [numbers]
            return [len(self.marks) - 1]
        if name in ("unmark", "off") and numbers[0] not in range(len(self.marks)):
            return [-2]
        if name == "unmark":
            self.marks = self.marks[:numbers[0]] + self.marks[numbers[0] + 1:]
            return [len(self.marks)]
        if name == "ready":
            return [int(self.ready())]
        return [-16] if not self.ready() else self.answer_ready(name, numbers)

    def answer_ready(self, name, numbers):
        if name == "off":
            return told_pair(self.off(self.marks[numbers[0]]))
        if name == "fits":
            return [int(all(self.off(mark) == (0, 0) for mark in self.marks))]
        return told_pair(self.take(numbers, name == "unroll"))


def modelled(calls):
    """What the calls are to answer."""
    model = Model()
    return [model.answer(call) for call in calls]


class Steps:
    """Numbers that look mixed and are the same each time."""

    def __init__(self, seed):
        self.now = seed

    def below(self, limit):
        self.now = (self.now * 6364136223846793005 + 1442695040888963407) % 2 ** 64
        return (self.now >> 33) % limit
