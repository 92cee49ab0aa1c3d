"""The document's words once more, by equations and fractions: a model to compare with."""

from fractions import Fraction
from math import gcd, lcm

from tests.helping import POINT_NUMBERS, area


def null_vector(rows, width):
    """The one solution, up to a factor, of equations that all are 0."""
    rows = [[Fraction(number) for number in row] for row in rows]
    pivots = []
    for column in range(width):
        at = len(pivots)
        below = [k for k in range(at, len(rows)) if rows[k][column] != 0]
        if not below:
            continue
        rows[at], rows[below[0]] = rows[below[0]], rows[at]
        rows[at] = [number / rows[at][column] for number in rows[at]]
        for k, row in enumerate(rows):
            if k != at:
                rows[k] = [a - row[column] * b for a, b in zip(row, rows[at])]
        pivots.append(column)
    free = [column for column in range(width) if column not in pivots]
    if len(free) != 1:
        raise AssertionError("not just one solution")
    found = [Fraction(0)] * width
    found[free[0]] = Fraction(1)
    for at, column in enumerate(pivots):
        found[column] = -rows[at][free[0]]
    return found


def solved_view(pairs):
    """The nine numbers of the view that takes four points to four others."""
    rows = []
    for (x, y), (u, v) in pairs:
        rows.append([x, y, 1, 0, 0, 0, -u * x, -u * y, -u])
        rows.append([0, 0, 0, x, y, 1, -v * x, -v * y, -v])
    return null_vector(rows, 9)


def viewed(view, point):
    """Where a view takes a point; None beyond all."""
    x, y = point
    a, b, c = [view[k] * x + view[k + 1] * y + view[k + 2] for k in (0, 3, 6)]
    return None if c == 0 else (a / c, b / c)


def told_pair(pair):
    """A point as it is to be answered."""
    if pair is None:
        return [-6]
    u, v = Fraction(pair[0]), Fraction(pair[1])
    return [0, u.numerator, u.denominator, v.numerator, v.denominator]


def told_fraction(number):
    """A fraction as it is to be answered."""
    number = Fraction(number)
    return [number.numerator, number.denominator]


def told_line(line):
    """Three fractions as a line is to be answered."""
    least = lcm(*[Fraction(number).denominator for number in line])
    numbers = [int(number * least) for number in line]
    numbers = [number // gcd(*numbers) for number in numbers]
    return [0] + max(numbers, [-number for number in numbers])


class Model:
    """What one object answers."""

    def __init__(self):
        self.marks = None
        self.views = {}

    def ready(self):
        if len(self.marks) < 4:
            return False
        for left_out in range(4):
            three = [self.marks[k] for k in range(4) if k != left_out]
            if area(*[mark[:2] for mark in three]) == 0 or area(*[mark[2:] for mark in three]) == 0:
                return False
        return True

    def view(self, back):
        key = (tuple(self.marks[:4]), back)
        if key not in self.views:
            pairs = [(mark[2:], mark[:2]) if back else (mark[:2], mark[2:]) for mark in self.marks[:4]]
            self.views[key] = solved_view(pairs)
        return self.views[key]

    def take(self, point, back):
        return viewed(self.view(back), point)

    def off(self, mark):
        seen = self.take(mark[:2], False)
        return None if seen is None else (seen[0] - mark[2], seen[1] - mark[3])

    def answer(self, call):
        name, numbers = call[0], call[1:]
        if name == "start":
            self.marks = []
            return [0]
        if self.marks is None:
            return [-11]
        if name in POINT_NUMBERS and (min(numbers) < 0 or max(numbers) > 100):
            return [-22]
        if name in ("unmark", "off") and numbers[0] not in range(len(self.marks)):
            return [-2]
        if name == "line" and numbers[:2] == numbers[2:]:
            return [-17]
        if name in ("mark", "unmark", "ready", "straight", "state"):
            return getattr(self, "answer_" + name)(*numbers)
        return getattr(self, "answer_" + name)(*numbers) if self.ready() else [-16]

    def answer_mark(self, *numbers):
        if len(self.marks) > 7:
            return [-28]
        self.marks = self.marks + [numbers]
        return [len(self.marks) - 1]

    def answer_unmark(self, at):
        self.marks = self.marks[:at] + self.marks[at + 1:]
        return [len(self.marks)]

    def answer_ready(self):
        return [int(self.ready())]

    def answer_state(self):
        return sum([list(mark) for mark in self.marks], [len(self.marks)])

    def answer_unroll(self, u, v):
        return told_pair(self.take((u, v), True))

    def answer_seen(self, x, y):
        return told_pair(self.take((x, y), False))

    def answer_off(self, at):
        return told_pair(self.off(self.marks[at]))

    def answer_fits(self):
        return [int(all(self.off(mark) == (0, 0) for mark in self.marks))]

    def answer_horizon(self):
        a, b, c = self.view(True)[6:]
        return [-33] if a == b == 0 else told_line([a, b, c])

    def answer_side(self, u, v):
        a, b, c = self.view(True)[6:]
        here = a * u + b * v + c
        there = a * self.marks[0][2] + b * self.marks[0][3] + c
        return [0 if here == 0 else 1 if (here > 0) == (there > 0) else 2]

    def answer_line(self, u, v, s, t):
        # A place is on the floor's line where what's seen of it is on the picture's.
        line = (v - t, s - u, u * t - v * s)
        view = self.view(False)
        return told_line([sum(line[row] * view[3 * row + column] for row in range(3)) for column in range(3)])

    def answer_straight(self, u, v, s, t, a, b):
        return [int(area((u, v), (s, t), (a, b)) == 0)]

    def answer_middle(self, u, v, s, t):
        first, second = self.take((u, v), True), self.take((s, t), True)
        if first is None or second is None:
            return [-6]
        seen = self.take(((first[0] + second[0]) / 2, (first[1] + second[1]) / 2), False)
        return [-33] if seen is None else told_pair(seen)

    def answer_apart(self, u, v, s, t):
        first, second = self.take((u, v), True), self.take((s, t), True)
        if first is None or second is None:
            return [-6]
        return [0] + told_fraction((second[0] - first[0]) ** 2 + (second[1] - first[1]) ** 2)

    def answer_part(self, u, v, s, t, a, b):
        first, second, third = [self.take(point, True) for point in ((u, v), (s, t), (a, b))]
        if first is None or second is None or third is None:
            return [-6]
        if first == second or area(first, second, third) != 0:
            return [-33]
        axis = 0 if first[0] != second[0] else 1
        return [0] + told_fraction((third[axis] - first[axis]) / (second[axis] - first[axis]))


def modelled(calls):
    """What the calls are to answer."""
    model = Model()
    return [model.answer(call) for call in calls]
