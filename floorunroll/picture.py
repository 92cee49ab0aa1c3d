"""The floor unrolled: places of a floor told exactly from a picture of it.

A point is held as three whole numbers up to a factor: u, v is u, v, 1, and
with 0 for the third it is beyond all. Places of the floor are held likewise.
"""

NO_SUCH_MARK = -2
BEYOND_ALL = -6
NOT_STARTED = -11
NOT_READY = -16
SAME_POINTS = -17
OUT_OF_RANGE = -22
NO_ROOM = -28
NONE_TO_TELL = -33

GREATEST = 100
MOST_MARKS = 8

START = 0


class Mark:
    """A place of the floor, and the point of the picture where it is seen."""

    def __init__(self, place, point):
        self.place = place
        self.point = point


class Floor:
    """What the calls of one list keep among them."""

    def __init__(self):
        self.started = False
        self.marks = []


def common_divisor(first, second):
    """The greatest common divisor of two numbers that are 0 or more."""
    larger = first
    smaller = second
    while smaller != 0:
        rest = larger % smaller
        larger = smaller
        smaller = rest
    return larger


def lowest(numbers, leading):
    """Numbers without a common divisor, the leading one of them above 0."""
    divisor = 0
    for number in numbers:
        divisor = common_divisor(divisor, abs(number))
    # A divisor below 0 turns every sign, and so the leading one's.
    if leading < 0:
        divisor = -divisor
    return [number // divisor for number in numbers]


def fraction(above, below):
    """A fraction in lowest terms, as two numbers; below may be any but 0."""
    return lowest([above, below], below)


def told_line(line):
    """A line as it is answered: its first number that isn't 0 is above 0."""
    return lowest(line, [number for number in line if number != 0][0])


def dot(first, second):
    """0 where a point is on a line, each told by three numbers."""
    return first[0] * second[0] + first[1] * second[1] + first[2] * second[2]


def cross(first, second):
    """The line through two points."""
    return [
        first[1] * second[2] - first[2] * second[1],
        first[2] * second[0] - first[0] * second[2],
        first[0] * second[1] - first[1] * second[0],
    ]


def determinant(first, second, third):
    """0 where three points are on a line, two in one place among them."""
    return dot(first, cross(second, third))


def times(factor, point):
    """The three numbers of a point, each so many times."""
    return [factor * number for number in point]


def sides(three):
    """The lines of a triangle, each across from the point of its number."""
    return [cross(three[1], three[2]), cross(three[2], three[0]), cross(three[0], three[1])]


def shares(point, three):
    """How many times each of three points is in a sum that makes a point.

    By Cramer's rule, but for the divisor: a factor common to all is free.
    """
    return [dot(line, point) for line in sides(three)]


def blend(factors, three):
    """The sum of three points or lines, each so many times."""
    return [dot(factors, [one[k] for one in three]) for k in range(3)]


def no_three_on_a_line(four):
    """Whether four points are such that any three of them make a triangle."""
    if determinant(four[0], four[1], four[2]) == 0:
        return False
    return all([share != 0 for share in shares(four[3], four[:3])])


def frame(four):
    """The first three points, with factors by which their sum is the fourth."""
    factors = shares(four[3], four[:3])
    return [times(factors[k], four[k]) for k in range(3)]


def taken(point, source, target):
    """Where a point goes by the view that takes one frame to another.

    It is told as a sum of the source's three, each so many times; the same
    sum of the target's three is where it goes.
    """
    return blend(shares(point, source), target)


def first_places(floor):
    """The places of the first four marks."""
    return [one.place for one in floor.marks[:4]]


def first_points(floor):
    """The points where the first four marks are seen."""
    return [one.point for one in floor.marks[:4]]


def is_ready(floor):
    """Whether the first four marks make a view."""
    if len(floor.marks) < 4:
        return False
    return no_three_on_a_line(first_places(floor)) and no_three_on_a_line(first_points(floor))


def where_seen(floor, place):
    """The point where a place is seen; only when it is ready."""
    return taken(place, frame(first_places(floor)), frame(first_points(floor)))


def where_unrolled(floor, point):
    """The place to which a point is unrolled; only when it is ready."""
    return taken(point, frame(first_points(floor)), frame(first_places(floor)))


def horizon(floor):
    """The line of the points unrolled to beyond all; only when it is ready.

    It sums up the third number of what `taken` answers, which is 0 there.
    """
    thirds = [place[2] for place in frame(first_places(floor))]
    return blend(thirds, sides(frame(first_points(floor))))


def given_points(numbers):
    """The points, or the place, that a call's numbers tell, two for each."""
    return [[numbers[k], numbers[k + 1], 1] for k in range(0, len(numbers), 2)]


def unrolled(floor, numbers):
    """The places of the points that a call's numbers tell."""
    return [where_unrolled(floor, point) for point in given_points(numbers)]


def told_point(point, beyond):
    """A point as it is answered: two fractions, or the refusal beyond all."""
    if point[2] == 0:
        return [beyond]
    return [0] + fraction(point[0], point[2]) + fraction(point[1], point[2])


def way(first, second):
    """From one place to another, times both third numbers, which aren't 0."""
    return [second[k] * first[2] - first[k] * second[2] for k in range(2)]


def along(first, second):
    """How far two ways go with one another: for one way its length squared."""
    return first[0] * second[0] + first[1] * second[1]


def middle_place(first, second):
    """The place in the middle of two that aren't beyond all."""
    return [first[k] * second[2] + second[k] * first[2] for k in range(3)]


def off_mark(floor, one):
    """By how much a mark's place is seen elsewhere than it is marked."""
    seen = where_seen(floor, one.place)
    # A marked point's third number is 1, so the way has the seen one's alone.
    return told_point(way(one.point, seen) + [seen[2]], BEYOND_ALL)


def refuse_numbers(floor, numbers):
    """A number of a place or a point is out of range."""
    return OUT_OF_RANGE if min(numbers) < 0 or max(numbers) > GREATEST else 0


def refuse_full(floor, numbers):
    """There are as many marks as there may be."""
    return NO_ROOM if len(floor.marks) == MOST_MARKS else 0


def refuse_mark(floor, numbers):
    """The number is none of a mark."""
    return NO_SUCH_MARK if numbers[0] >= len(floor.marks) else 0


def refuse_unready(floor, numbers):
    """The first four marks make no view."""
    return 0 if is_ready(floor) else NOT_READY


def refuse_same(floor, numbers):
    """The two points are one."""
    return SAME_POINTS if numbers[:2] == numbers[2:] else 0


def refuse_horizon(floor, numbers):
    """One of the points is on the horizon."""
    return BEYOND_ALL if any([place[2] == 0 for place in unrolled(floor, numbers)]) else 0


def answer_start(floor, numbers):
    """All marks are gone, also those of an earlier start."""
    floor.started = True
    floor.marks = []
    return [0]


def answer_mark(floor, numbers):
    """One more mark: its number."""
    both = given_points(numbers)
    floor.marks.append(Mark(both[0], both[1]))
    return [len(floor.marks) - 1]


def answer_unmark(floor, numbers):
    """One mark is gone; how many there are then."""
    floor.marks.pop(numbers[0])
    return [len(floor.marks)]


def answer_ready(floor, numbers):
    """1 if the first four marks make a view, else 0."""
    return [1 if is_ready(floor) else 0]


def answer_unroll(floor, numbers):
    """The place of a point of the picture."""
    return told_point(unrolled(floor, numbers)[0], BEYOND_ALL)


def answer_seen(floor, numbers):
    """Where a place of the floor is seen."""
    return told_point(where_seen(floor, given_points(numbers)[0]), BEYOND_ALL)


def answer_off(floor, numbers):
    """By how much a mark is seen elsewhere than it is marked."""
    return off_mark(floor, floor.marks[numbers[0]])


def answer_fits(floor, numbers):
    """1 if each mark is seen where it is marked, else 0."""
    all_fit = all([off_mark(floor, one) == [0, 0, 1, 0, 1] for one in floor.marks])
    return [1 if all_fit else 0]


def answer_horizon(floor, numbers):
    """The horizon, unless the picture is from straight above."""
    line = horizon(floor)
    if line[0] == 0 and line[1] == 0:
        return [NONE_TO_TELL]
    return [0] + told_line(line)


def answer_side(floor, numbers):
    """On which side of the horizon a point is, by where mark 0 is seen."""
    line = horizon(floor)
    # Mark 0 has a place that isn't beyond all, so it is never on the horizon.
    compared = dot(line, given_points(numbers)[0]) * dot(line, floor.marks[0].point)
    if compared == 0:
        return [0]
    return [1 if compared > 0 else 2]


def answer_middle(floor, numbers):
    """Where what is in the middle of two points' places is seen."""
    places = unrolled(floor, numbers)
    return told_point(where_seen(floor, middle_place(places[0], places[1])), NONE_TO_TELL)


def answer_apart(floor, numbers):
    """How far apart two points' places are, squared."""
    places = unrolled(floor, numbers)
    between = way(places[0], places[1])
    return [0] + fraction(along(between, between), (places[0][2] * places[1][2]) ** 2)


def answer_part(floor, numbers):
    """How far along from the first place to the second the third one is."""
    places = unrolled(floor, numbers)
    whole = way(places[0], places[1])
    if whole == [0, 0] or determinant(places[0], places[1], places[2]) != 0:
        return [NONE_TO_TELL]
    reached = way(places[0], places[2])
    return [0] + fraction(along(reached, whole) * places[1][2], along(whole, whole) * places[2][2])


def answer_line(floor, numbers):
    """The floor's line through the places of two points."""
    places = unrolled(floor, numbers)
    return [0] + told_line(cross(places[0], places[1]))


def answer_straight(floor, numbers):
    """1 if three points of the picture are on a line, else 0."""
    points = given_points(numbers)
    return [1 if determinant(points[0], points[1], points[2]) == 0 else 0]


def answer_state(floor, numbers):
    """How many marks there are, then each one's numbers."""
    told = [len(floor.marks)]
    for one in floor.marks:
        told.extend(one.place[:2] + one.point[:2])
    return told


# In the order of the calls' numbers: how many numbers stand behind that one,
# what answers, and what may refuse ahead of that (0: it doesn't), in order.
CALLS = (
    (0, answer_start, ()),
    (4, answer_mark, (refuse_numbers, refuse_full)),
    (1, answer_unmark, (refuse_mark,)),
    (0, answer_ready, ()),
    (2, answer_unroll, (refuse_numbers, refuse_unready)),
    (2, answer_seen, (refuse_numbers, refuse_unready)),
    (1, answer_off, (refuse_mark, refuse_unready)),
    (0, answer_fits, (refuse_unready,)),
    (0, answer_horizon, (refuse_unready,)),
    (2, answer_side, (refuse_numbers, refuse_unready)),
    (4, answer_middle, (refuse_numbers, refuse_unready, refuse_horizon)),
    (4, answer_apart, (refuse_numbers, refuse_unready, refuse_horizon)),
    (6, answer_part, (refuse_numbers, refuse_unready, refuse_horizon)),
    (4, answer_line, (refuse_numbers, refuse_same, refuse_unready)),
    (6, answer_straight, (refuse_numbers,)),
    (0, answer_state, ()),
)


def answer(floor, call, numbers):
    """What one call answers."""
    if call != START and not floor.started:
        return [NOT_STARTED]
    for refuse in CALLS[call][2]:
        refused = refuse(floor, numbers)
        if refused != 0:
            return [refused]
    chosen = CALLS[call][1]
    return chosen(floor, numbers)


def answers(calls):
    """What the calls answer, one behind another on one new object.

    Ahead of each answer stands how many numbers it has.
    """
    floor = Floor()
    given = []
    at = 0
    while at < len(calls):
        call = calls[at]
        behind = at + 1 + CALLS[call][0]
        found = answer(floor, call, calls[at + 1:behind])
        given.append(len(found))
        given.extend(found)
        at = behind
    return given
