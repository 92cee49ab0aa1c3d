"""The floor unrolled: places of a floor told exactly from a picture of it.

A point is held as three whole numbers up to a factor: u, v is u, v, 1, and
with 0 for the third it is beyond all. Places of the floor are held likewise.
"""

NO_SUCH_MARK = -2
BEYOND_ALL = -6
NOT_STARTED = -11
NOT_READY = -16
OUT_OF_RANGE = -22
NO_ROOM = -28

GREATEST = 100
MOST_MARKS = 8

START = 0

# How many numbers stand behind each call's own number. All calls of the
# interface are here, since before a start each is read over and answers -11.
WIDTHS = (0, 4, 1, 0, 2, 2, 1, 0, 0, 2, 4, 4, 6, 4, 6, 0)


class Mark:
    """A place of the floor, and the point of the picture where it is seen."""

    def __init__(self, place, point):
        self.place = place
        self.point = point


class Floor:
    """What the calls of one list keep among them."""

    def __init__(self):
        self.started = False
        self.marks = []


def common_divisor(first, second):
    """The greatest common divisor of two numbers that are 0 or more."""
    larger = first
    smaller = second
    while smaller != 0:
        rest = larger % smaller
        larger = smaller
        smaller = rest
    return larger


def fraction(above, below):
    """A fraction in lowest terms, as two numbers; below may be any but 0."""
    divisor = common_divisor(abs(above), abs(below))
    # A divisor below 0 turns both signs, so that what is below is 1 or more.
    if below < 0:
        divisor = -divisor
    return [above // divisor, below // divisor]


def dot(first, second):
    """0 where a point is on a line, each told by three numbers."""
    return first[0] * second[0] + first[1] * second[1] + first[2] * second[2]


def cross(first, second):
    """The line through two points."""
    return [
        first[1] * second[2] - first[2] * second[1],
        first[2] * second[0] - first[0] * second[2],
        first[0] * second[1] - first[1] * second[0],
    ]


def determinant(first, second, third):
    """0 where three points are on a line, two in one place among them."""
    return dot(first, cross(second, third))


def no_three_on_a_line(four):
    """Whether four points are such that any three of them make a triangle."""
    return (
        determinant(four[1], four[2], four[3]) != 0
        and determinant(four[0], four[2], four[3]) != 0
        and determinant(four[0], four[1], four[3]) != 0
        and determinant(four[0], four[1], four[2]) != 0
    )


def times(factor, point):
    """The three numbers of a point, each so many times."""
    return [factor * number for number in point]


def frame(four):
    """The first three points, with factors by which their sum is the fourth.

    By Cramer's rule, but for the divisor: a factor common to all is free.
    """
    return [
        times(determinant(four[3], four[1], four[2]), four[0]),
        times(determinant(four[0], four[3], four[2]), four[1]),
        times(determinant(four[0], four[1], four[3]), four[2]),
    ]


def taken(point, source, target):
    """Where a point goes by the view that takes one frame to another.

    It is told as a sum of the source's three, each so many times; the same
    sum of the target's three is where it goes.
    """
    first = times(dot(cross(source[1], source[2]), point), target[0])
    second = times(dot(cross(source[2], source[0]), point), target[1])
    third = times(dot(cross(source[0], source[1]), point), target[2])
    return [first[k] + second[k] + third[k] for k in range(3)]


def first_places(floor):
    """The places of the first four marks."""
    return [one.place for one in floor.marks[:4]]


def first_points(floor):
    """The points where the first four marks are seen."""
    return [one.point for one in floor.marks[:4]]


def is_ready(floor):
    """Whether the first four marks make a view."""
    if len(floor.marks) < 4:
        return False
    return no_three_on_a_line(first_places(floor)) and no_three_on_a_line(first_points(floor))


def where_seen(floor, place):
    """The point where a place is seen; only when it is ready."""
    return taken(place, frame(first_places(floor)), frame(first_points(floor)))


def where_unrolled(floor, point):
    """The place to which a point is unrolled; only when it is ready."""
    return taken(point, frame(first_points(floor)), frame(first_places(floor)))


def in_range(numbers):
    """Whether the numbers may be those of places and points."""
    return all([0 <= number <= GREATEST for number in numbers])


def told_point(point):
    """A point as it is answered: two fractions, or that it is beyond all."""
    if point[2] == 0:
        return [BEYOND_ALL]
    return [0] + fraction(point[0], point[2]) + fraction(point[1], point[2])


def off_mark(floor, one):
    """By how much a mark's place is seen elsewhere than it is marked."""
    seen = where_seen(floor, one.place)
    return told_point([
        seen[0] - one.point[0] * seen[2],
        seen[1] - one.point[1] * seen[2],
        seen[2],
    ])


def answer_start(floor, numbers):
    """All marks are gone, also those of an earlier start."""
    floor.started = True
    floor.marks = []
    return [0]


def answer_mark(floor, numbers):
    """One more mark, if there is room for it."""
    if not in_range(numbers):
        return [OUT_OF_RANGE]
    if len(floor.marks) == MOST_MARKS:
        return [NO_ROOM]
    floor.marks.append(Mark([numbers[0], numbers[1], 1], [numbers[2], numbers[3], 1]))
    return [len(floor.marks) - 1]


def answer_unmark(floor, numbers):
    """One mark is gone; how many there are then."""
    if numbers[0] >= len(floor.marks):
        return [NO_SUCH_MARK]
    floor.marks.pop(numbers[0])
    return [len(floor.marks)]


def answer_ready(floor, numbers):
    """1 if the first four marks make a view, else 0."""
    return [1 if is_ready(floor) else 0]


def answer_unroll(floor, numbers):
    """The place of a point of the picture."""
    if not in_range(numbers):
        return [OUT_OF_RANGE]
    if not is_ready(floor):
        return [NOT_READY]
    return told_point(where_unrolled(floor, [numbers[0], numbers[1], 1]))


def answer_seen(floor, numbers):
    """Where a place of the floor is seen."""
    if not in_range(numbers):
        return [OUT_OF_RANGE]
    if not is_ready(floor):
        return [NOT_READY]
    return told_point(where_seen(floor, [numbers[0], numbers[1], 1]))


def answer_off(floor, numbers):
    """By how much a mark is seen elsewhere than it is marked."""
    if numbers[0] >= len(floor.marks):
        return [NO_SUCH_MARK]
    if not is_ready(floor):
        return [NOT_READY]
    return off_mark(floor, floor.marks[numbers[0]])


def answer_fits(floor, numbers):
    """1 if each mark is seen where it is marked, else 0."""
    if not is_ready(floor):
        return [NOT_READY]
    all_fit = all([off_mark(floor, one) == [0, 0, 1, 0, 1] for one in floor.marks])
    return [1 if all_fit else 0]


# In the order of the calls' numbers.
ANSWERS = (
    answer_start,
    answer_mark,
    answer_unmark,
    answer_ready,
    answer_unroll,
    answer_seen,
    answer_off,
    answer_fits,
)


def answer(floor, call, numbers):
    """What one call answers."""
    if call != START and not floor.started:
        return [NOT_STARTED]
    chosen = ANSWERS[call]
    return chosen(floor, numbers)


def answers(calls):
    """What the calls answer, one behind another on one new object.

    Ahead of each answer stands how many numbers it has.
    """
    floor = Floor()
    given = []
    at = 0
    while at < len(calls):
        call = calls[at]
        behind = at + 1 + WIDTHS[call]
        found = answer(floor, call, calls[at + 1:behind])
        given.append(len(found))
        given.extend(found)
        at = behind
    return given
