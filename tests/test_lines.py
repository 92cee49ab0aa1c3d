"""Point 3: horizon, side, line, straight."""

import itertools
import math
import unittest

from tests.helping import ABOVE, ALL_FOURS, BAD_PLACES, BOTH_SIDES, CROOKED, HORIZON, LEAST, LOW, MOST, NOT_READY
from tests.helping import READY, START, TILTED, TURNED
from tests.helping import asked, points_of, said

OUTSIDE = (-1, 101, LEAST, MOST)

# Four marks each, and their horizon.
HORIZONS = (
    (TILTED, [0, 1, -100]),
    (TURNED, [0, 1, -100]),
    (LOW, [0, 1, -50]),
    (BOTH_SIDES, [0, 1, -50]),
    # LOW with u and v exchanged.
    ([(x, y, v, u) for x, y, u, v in LOW], [1, 0, -50]),
    # Both upside down, with 50 - v for v: the horizon is the picture's edge.
    ([(0, 0, 0, 50), (10, 0, 100, 50), (10, 10, 75, 25), (0, 10, 25, 25)], [0, 1, 0]),
    ([(0, 0, 50, 0), (10, 0, 50, 100), (10, 10, 25, 75), (0, 10, 25, 25)], [1, 0, 0]),
    # u is 60x, v is 60y, by x + y + 1; by 2x + 3y + 1; by 2x + 2y + 1, where all three would have 2 in common.
    ([(0, 0, 0, 0), (1, 0, 30, 0), (0, 1, 0, 30), (1, 1, 20, 20)], [1, 1, -60]),
    ([(0, 0, 0, 0), (1, 0, 20, 0), (0, 1, 0, 15), (1, 1, 10, 10)], [2, 3, -60]),
    ([(0, 0, 0, 0), (1, 0, 20, 0), (0, 1, 0, 20), (1, 1, 12, 12)], [1, 1, -30]),
    # By x - y + 5, and by y - x + 5: the first two numbers' signs differ.
    ([(0, 0, 0, 0), (1, 0, 10, 0), (0, 1, 0, 15), (1, 1, 12, 12)], [1, -1, -60]),
    ([(0, 0, 0, 0), (1, 0, 15, 0), (0, 1, 0, 10), (1, 1, 12, 12)], [1, -1, 60]),
    # The first of these with v + 60.
    ([(0, 0, 0, 60), (1, 0, 10, 60), (0, 1, 0, 75), (1, 1, 12, 72)], [1, -1, 0]),
)

FROM_ABOVE = (
    ABOVE,
    [(0, 0, 0, 0), (100, 0, 100, 0), (100, 100, 100, 100), (0, 100, 0, 100)],
    # Mirrored, and with a square seen slanted.
    [(0, 0, 0, 0), (1, 0, 0, 1), (0, 1, 1, 0), (1, 1, 1, 1)],
    [(0, 0, 10, 10), (10, 0, 17, 20), (10, 10, 47, 25), (0, 10, 40, 15)],
    # Four that make no parallelogram, as they are.
    [(x, y, x, y) for x, y in ((0, 0), (50, 3), (100, 100), (7, 81))],
)


def on(line, point):
    return line[0] * point[0] + line[1] * point[1] + line[2]


def every_point():
    return [(u, v) for u in range(101) for v in range(101)]


class TheHorizon(unittest.TestCase):
    def test_not_ready(self):
        for marks in NOT_READY:
            self.assertEqual(asked(marks, [HORIZON]), [[-16]], marks)

    def test_from_straight_above(self):
        for marks in FROM_ABOVE:
            for order in itertools.permutations(marks):
                self.assertEqual(asked(list(order), [READY, HORIZON]), [[1], [-33]], order)

    def test_it_is_told_the_same_in_whatever_order_the_four_are_marked(self):
        for marks, line in HORIZONS:
            for order in itertools.permutations(marks):
                self.assertEqual(asked(list(order), [HORIZON]), [[0] + line], order)

    def test_without_a_common_divisor_and_the_first_above_0(self):
        for marks in ALL_FOURS:
            for answer in asked(marks, [HORIZON]):
                if answer == [-33]:
                    self.assertEqual(marks, ABOVE)
                    continue
                self.assertEqual((answer[0], len(answer)), (0, 4))
                self.assertEqual(math.gcd(*answer[1:]), 1)
                self.assertGreater([number for number in answer[1:] if number != 0][0], 0)

    def test_great_numbers(self):
        self.assertEqual(asked(CROOKED, [HORIZON]), [[0, 5412106482734, 7354553486248, -375514717016089]])

    def test_its_points_and_no_others_are_unrolled_to_beyond_all(self):
        for marks, line in HORIZONS[3:]:
            points = [point for point in every_point() if abs(on(line, point)) < 4]
            unrolled = asked(marks, [("unroll", *point) for point in points])
            sides = asked(marks, [("side", *point) for point in points])
            self.assertIn([-6], unrolled)
            for point, answer, side in zip(points, unrolled, sides):
                self.assertEqual(answer == [-6], on(line, point) == 0, (line, point))
                self.assertEqual(side == [0], on(line, point) == 0, (line, point))

    def test_a_fifth_changes_nothing(self):
        for fifth in [(0, 0, 0, 0), (5, 5, 50, 50), (3, 90, 100, 50)]:
            self.assertEqual(asked(LOW + [fifth], [HORIZON]), [[0, 0, 1, -50]], fifth)


class TheSide(unittest.TestCase):
    def test_out_of_range(self):
        for number in OUTSIDE:
            calls = [("side", number, 50), ("side", 50, number), ("side", number, number)]
            for marks in (TILTED, ABOVE):
                self.assertEqual(asked(marks, calls), [[-22]] * 3, number)

    def test_not_ready(self):
        for marks in NOT_READY:
            self.assertEqual(asked(marks, [("side", 0, 0), ("side", 100, 100)]), [[-16]] * 2, marks)

    def test_out_of_range_ahead_of_not_ready(self):
        for marks in NOT_READY:
            for number in OUTSIDE:
                self.assertEqual(asked(marks, [("side", number, 0), ("side", 0, number)]), [[-22]] * 2)

    def test_mark_0_itself(self):
        for marks in ALL_FOURS + FROM_ABOVE:
            for order in itertools.permutations(marks):
                self.assertEqual(asked(list(order), [("side", *order[0][2:])]), [[1]], order)

    def test_on_the_horizon_ahead_of_it_and_behind_it(self):
        for u in range(101):
            calls = [("side", u, v) for v in (0, 49, 50, 51, 100)]
            self.assertEqual(asked(LOW, calls), [[1], [1], [0], [2], [2]], u)

    def test_it_goes_by_mark_0_alone(self):
        calls = [("side", u, v) for u in (0, 13, 100) for v in (0, 49, 50, 51, 100)]
        below = [[1], [1], [0], [2], [2]] * 3
        above = [[2], [2], [0], [1], [1]] * 3
        for order in itertools.permutations(BOTH_SIDES):
            self.assertEqual(asked(list(order), calls), above if order[0][3] > 50 else below, order)

    def test_another_mark_0_behind_an_unmark(self):
        marks = BOTH_SIDES + BOTH_SIDES[:2]
        calls = [("side", 7, 51), ("unmark", 0), ("side", 7, 51), ("unmark", 0), ("side", 7, 51)]
        self.assertEqual(asked(marks, calls), [[1], [5], [1], [4], [2]])

    def test_every_point(self):
        for marks, line in HORIZONS:
            points = every_point()[::7]
            there = on(line, marks[0][2:])
            wanted = [[0 if on(line, point) == 0 else 1 if on(line, point) * there > 0 else 2] for point in points]
            self.assertEqual(asked(marks, [("side", *point) for point in points]), wanted, line)

    def test_from_straight_above_all_is_on_one_side(self):
        points = every_point()[::29] + [(0, 0), (100, 0), (0, 100), (100, 100)]
        for marks in FROM_ABOVE:
            for order in itertools.permutations(marks):
                found = asked(list(order), [("side", *point) for point in points[:40]])
                self.assertEqual(found, [[1]] * 40, order)
            self.assertEqual(asked(marks, [("side", *point) for point in points]), [[1]] * len(points))


class TheLine(unittest.TestCase):
    def check(self, marks, pairs):
        """Both points either way round answer the line."""
        for first, second, line in pairs:
            calls = [("line", *first, *second), ("line", *second, *first)]
            self.assertEqual(asked(marks, calls), [[0] + line] * 2, (first, second))

    def test_out_of_range(self):
        for at in range(4):
            for number in OUTSIDE:
                numbers = [10, 20, 30, 40]
                numbers[at] = number
                for marks in NOT_READY + (TILTED,):
                    self.assertEqual(asked(marks, [("line", *numbers)]), [[-22]], numbers)

    def test_out_of_range_ahead_of_the_same(self):
        for number in OUTSIDE:
            calls = [("line", number, 3, number, 3), ("line", 3, number, 3, number), ("line",) + (number,) * 4]
            for marks in (TILTED, []):
                self.assertEqual(asked(marks, calls), [[-22]] * 3, number)

    def test_the_same(self):
        calls = [("line", u, v, u, v) for u in (0, 50, 100) for v in (0, 37, 100)]
        self.assertEqual(asked(TILTED, calls), [[-17]] * 9)

    def test_the_same_ahead_of_not_ready(self):
        for marks in NOT_READY:
            calls = [("line", 3, 4, 3, 4), ("line", 3, 4, 3, 5), ("line", 3, 4, 4, 4), ("line", 3, 4, 4, 3)]
            self.assertEqual(asked(marks, calls), [[-17], [-16], [-16], [-16]], marks)

    def test_half_the_same_is_not(self):
        calls = [("line", 3, 4, 3, 5), ("line", 3, 4, 4, 4), ("line", 3, 4, 4, 3), ("line", 3, 3, 4, 4)]
        for answer in asked(CROOKED, calls):
            self.assertEqual((answer[0], len(answer)), (0, 4))

    def test_neither_on_the_horizon(self):
        self.check(TILTED, [
            ((0, 0), (100, 0), [0, 1, 0]),
            ((0, 0), (25, 50), [1, 0, 0]),
            ((100, 0), (75, 50), [1, 0, -10]),
            ((25, 50), (75, 50), [0, 1, -10]),
            ((0, 0), (75, 50), [1, -1, 0]),
            ((100, 0), (25, 50), [1, 1, -10]),
            # 7, 30 is unrolled to -8/7, 30/7 and 50, 0 to 5, 0: 30x + 43y is 150.
            ((7, 30), (50, 0), [30, 43, -150]),
            ((7, 30), (0, 0), [15, 4, 0]),
        ])

    def test_on_both_sides_of_the_horizon(self):
        # 50, 75 is unrolled to 5, -30 and 0, 100 to 10, -20.
        self.check(LOW, [
            ((50, 75), (50, 0), [1, 0, -5]),
            ((50, 75), (0, 0), [6, 1, 0]),
            ((50, 75), (0, 100), [2, -1, -40]),
            ((0, 100), (75, 25), [1, 0, -10]),
        ])

    def test_one_on_the_horizon(self):
        self.check(TILTED, [
            ((50, 100), (0, 0), [1, 0, 0]),
            ((50, 100), (100, 0), [1, 0, -10]),
            ((100, 100), (0, 0), [2, -1, 0]),
            ((0, 100), (0, 0), [2, 1, 0]),
            ((0, 100), (25, 50), [2, 1, -10]),
            ((0, 100), (50, 0), [2, 1, -10]),
        ])

    def test_both_on_the_horizon(self):
        self.check(TILTED, [((0, 100), (100, 100), [0, 0, 1]), ((50, 100), (51, 100), [0, 0, 1])])
        for marks, line in HORIZONS[2:]:
            points = [point for point in every_point() if on(line, point) == 0]
            for order in itertools.permutations(marks):
                self.check(list(order), [(points[0], points[-1], [0, 0, 1]), (points[0], points[1], [0, 0, 1])])

    def test_from_straight_above(self):
        # u is 2x + 20, v is 2y + 20.
        self.check(ABOVE, [
            ((20, 20), (40, 40), [1, -1, 0]),
            ((21, 20), (20, 21), [2, 2, -1]),
            ((0, 0), (100, 0), [0, 1, 10]),
            ((0, 0), (0, 100), [1, 0, 10]),
            ((0, 0), (3, 4), [4, -3, 10]),
        ])

    def test_its_form_and_that_both_places_are_on_it(self):
        points = [(0, 0), (3, 4), (14, 6), (50, 61), (99, 7), (100, 100)]
        for marks in ALL_FOURS:
            places = dict(zip(points, asked(marks, [("unroll", *point) for point in points])))
            for first, second in itertools.permutations(points, 2):
                answer = asked(marks, [("line", *first, *second)])[0]
                self.assertEqual((answer[0], len(answer)), (0, 4))
                line = answer[1:]
                self.assertEqual(math.gcd(*line), 1)
                self.assertGreater([number for number in line if number != 0][0], 0)
                for point in (first, second):
                    if places[point] != [-6]:
                        self.assertEqual(on(line, points_of(places[point])), 0, (marks, first, second))

    def test_great_numbers(self):
        found = asked(CROOKED, [("line", 61, 96, 22, 34)])
        self.assertEqual(found, [[0, 15846103412646199, 1106055162097379, -1474099643184247130]])


class BeingStraight(unittest.TestCase):
    def check(self, points, wanted):
        """In whatever order, and whatever is marked."""
        for marks in NOT_READY + (TILTED, ABOVE):
            for order in itertools.permutations(points):
                found = asked(marks, [("straight", *order[0], *order[1], *order[2])])
                self.assertEqual(found, [[wanted]], (marks, order))

    def test_out_of_range(self):
        for at in range(6):
            for number in OUTSIDE:
                numbers = [0, 0, 20, 20, 50, 50]
                numbers[at] = number
                for marks in NOT_READY + (TILTED,):
                    self.assertEqual(asked(marks, [("straight", *numbers)]), [[-22]], numbers)
        self.assertEqual(said([START] + [("straight",) + (number,) * 6 for number in OUTSIDE])[1:], [[-22]] * 4)

    def test_on_a_line(self):
        for points in [((0, 0), (50, 50), (100, 100)), ((0, 7), (50, 7), (51, 7)), ((7, 0), (7, 1), (7, 100)),
                       ((0, 99), (33, 66), (99, 0)), ((1, 2), (4, 9), (7, 16)), ((0, 100), (50, 50), (100, 0))]:
            self.check(points, 1)

    def test_not_on_a_line(self):
        for points in [((0, 0), (50, 50), (100, 99)), ((0, 7), (50, 7), (51, 8)), ((7, 0), (7, 1), (8, 100)),
                       ((0, 0), (0, 1), (1, 0)), ((0, 0), (99, 100), (98, 99)), ((0, 0), (100, 0), (0, 100))]:
            self.check(points, 0)

    def test_two_that_are_one(self):
        for points in [((3, 4), (3, 4), (50, 60)), ((0, 0), (0, 0), (100, 1)), ((100, 0), (0, 100), (0, 100))]:
            self.check(points, 1)

    def test_all_that_are_one(self):
        for point in [(0, 0), (3, 4), (100, 100), (0, 100)]:
            self.check((point, point, point), 1)

    def test_on_the_horizon(self):
        self.check(((0, 100), (50, 100), (100, 100)), 1)
        self.check(((0, 100), (50, 100), (100, 99)), 0)

    def test_with_no_marks(self):
        calls = [("straight", 0, 0, 1, 1, 2, 2), ("straight", 0, 0, 1, 1, 2, 3), ("straight", 5, 5, 5, 5, 5, 5)]
        self.assertEqual(said([START] + calls), [[0], [1], [0], [1]])
        self.assertEqual(asked(BAD_PLACES, [READY] + calls), [[0], [1], [0], [1]])


if __name__ == "__main__":
    unittest.main()
