"""Point 4: middle, apart, part."""

import itertools
import unittest

from tests.helping import ABOVE, ALL_FOURS, BOTH_SIDES, CROOKED, LEAST, LOW, MOST, NOT_READY, POINT_NUMBERS, TILTED
from tests.helping import asked, points_of, whole

OUTSIDE = (-1, 101, LEAST, MOST)
MEASURES = ("middle", "apart", "part")

# Of LOW, with what they're unrolled to: 5, 0; 5, 10; 5, -30; 10, -20.
NEAR, FAR, BEHIND, ASIDE = (50, 0), (50, 25), (50, 75), (0, 100)


def call(name, *points):
    return (name, *itertools.chain(*points))


def answered(marks, name, *points):
    return asked(marks, [call(name, *points)])[0]


class Refusing(unittest.TestCase):
    def test_out_of_range(self):
        for name in MEASURES:
            for at in range(POINT_NUMBERS[name]):
                for number in OUTSIDE:
                    numbers = [10, 20, 30, 40, 50, 60][:POINT_NUMBERS[name]]
                    numbers[at] = number
                    for marks in NOT_READY + (TILTED, ABOVE):
                        self.assertEqual(asked(marks, [(name, *numbers)]), [[-22]], (name, numbers))

    def test_not_ready(self):
        for name in MEASURES:
            for marks in NOT_READY:
                for numbers in ([10, 20, 30, 40, 50, 60], [100] * 6, [0] * 6):
                    found = asked(marks, [(name, *numbers[:POINT_NUMBERS[name]])])
                    self.assertEqual(found, [[-16]], (name, marks))

    def test_one_on_the_horizon(self):
        for name in MEASURES:
            many = POINT_NUMBERS[name] // 2
            for far in itertools.product((False, True), repeat=many):
                points = [(10 * k, 100 if on else 10 + k) for k, on in enumerate(far)]
                found = answered(TILTED, name, *points)
                self.assertEqual(found == [-6], any(far), (name, points))

    def test_out_of_range_ahead_of_the_horizon(self):
        for name in MEASURES:
            numbers = [50, 100, 101, 100, 50, 100][:POINT_NUMBERS[name]]
            self.assertEqual(asked(TILTED, [(name, *numbers)]), [[-22]])

    def test_the_same_point_on_the_horizon(self):
        for name in MEASURES:
            many = POINT_NUMBERS[name] // 2
            self.assertEqual(answered(TILTED, name, *[(50, 100)] * many), [-6])


class TheMiddle(unittest.TestCase):
    def check(self, marks, first, second, wanted):
        self.assertEqual(answered(marks, "middle", first, second), wanted, (first, second))
        self.assertEqual(answered(marks, "middle", second, first), wanted, (second, first))

    def test_from_straight_above(self):
        self.check(ABOVE, (20, 20), (40, 40), whole(30, 30))
        self.check(ABOVE, (0, 0), (100, 100), whole(50, 50))
        self.check(ABOVE, (0, 7), (1, 0), [0, 1, 2, 7, 2])
        self.check(ABOVE, (100, 0), (0, 0), whole(50, 0))

    def test_it_is_the_floors_middle_and_not_the_pictures(self):
        # 5, 0 and 5, 10 have 5, 5 in the middle, seen at 750/15, 500/15.
        self.check(TILTED, (50, 0), (50, 50), [0, 50, 1, 100, 3])
        # 0, 0 and 10, 10.
        self.check(TILTED, (0, 0), (75, 50), [0, 50, 1, 100, 3])
        # Side by side they're both the same.
        self.check(TILTED, (0, 0), (100, 0), whole(50, 0))
        # -8/7, 30/7 and 0, 0: -4/7, 15/7.
        self.check(TILTED, (7, 30), (0, 0), [0, 70, 17, 300, 17])

    def test_both_the_same(self):
        for marks in ALL_FOURS:
            for point in [(0, 0), (7, 30), (61, 96), (99, 99)]:
                self.assertEqual(answered(marks, "middle", point, point), whole(*point), (marks, point))

    def test_both_sides_of_the_horizon(self):
        # 5, -30 and 5, 490 (of 50, 49): 5, 230, on the near side.
        self.check(LOW, BEHIND, (50, 49), [0, 50, 1, 575, 12])
        # 5, -30 and 5, 0: 5, -15, behind it.
        self.check(LOW, BEHIND, NEAR, whole(50, 150))
        # 10, -20 and 0, 0: 5, -10.
        self.check(LOW, ASIDE, (0, 0), [-33])
        # 10, -20 and 0, 10: 5, -5.
        self.check(LOW, ASIDE, (25, 25), whole(50, -50))

    def test_seen_beyond_all(self):
        self.check(LOW, BEHIND, FAR, [-33])
        # 5, -30 and 0, 10, and 10, 10.
        self.check(LOW, BEHIND, (25, 25), [-33])
        self.check(LOW, BEHIND, (75, 25), [-33])
        # 5, -30 and 5, 65/6: 5, -115/12, just not.
        self.check(LOW, BEHIND, (50, 26), whole(50, -1150))
        self.check(BOTH_SIDES, BEHIND, FAR, [-33])

    def test_both_behind_it(self):
        # 5, -30 and 10, -20: 15/2, -25.
        self.check(LOW, BEHIND, ASIDE, [0, 100, 3, 250, 3])

    def test_great_numbers(self):
        wanted = [0, 362680337968123, 16776086083256, 10924344841429949, 327133678623492]
        self.check(CROOKED, (61, 96), (22, 34), wanted)

    def test_it_is_unrolled_to_the_middle(self):
        points = [(0, 0), (10, 20), (40, 10), (50, 75), (33, 99), (100, 50), (25, 25)]
        tried = 0
        for marks in ALL_FOURS:
            for first, second in itertools.combinations(points, 2):
                found = answered(marks, "middle", first, second)
                if found[0] == 0 and found[2] == found[4] == 1 and 0 <= min(found[1::2]) and max(found[1::2]) <= 100:
                    tried += 1
                    places = asked(marks, [("unroll", *point) for point in (first, second, (found[1], found[3]))])
                    places = [points_of(place) for place in places]
                    for k in range(2):
                        self.assertEqual(places[0][k] + places[1][k], 2 * places[2][k])
        self.assertGreater(tried, 10)


class BeingApart(unittest.TestCase):
    def check(self, marks, first, second, wanted):
        self.assertEqual(answered(marks, "apart", first, second), [0] + wanted, (first, second))
        self.assertEqual(answered(marks, "apart", second, first), [0] + wanted, (second, first))

    def test_at_one_place(self):
        for marks in ALL_FOURS:
            for point in [(0, 0), (7, 30), (61, 96), (99, 99)]:
                self.check(marks, point, point, [0, 1])

    def test_whole_ones(self):
        self.check(TILTED, (0, 0), (100, 0), [100, 1])
        self.check(TILTED, (0, 0), (25, 50), [100, 1])
        self.check(TILTED, (0, 0), (75, 50), [200, 1])
        self.check(TILTED, (100, 0), (25, 50), [200, 1])
        self.check(ABOVE, (20, 20), (26, 28), [25, 1])

    def test_fractions(self):
        self.check(TILTED, (7, 30), (0, 0), [964, 49])
        self.check(TILTED, (1, 0), (0, 0), [1, 100])
        # 67/4, 15 and -8/7, 30/7: 501/28 and 300/28.
        self.check(TILTED, (97, 60), (7, 30), [341001, 784])
        self.check(ABOVE, (20, 20), (21, 21), [1, 2])
        self.check(ABOVE, (3, 4), (4, 4), [1, 4])

    def test_both_sides_of_the_horizon(self):
        self.check(LOW, BEHIND, NEAR, [900, 1])
        self.check(LOW, BEHIND, ASIDE, [125, 1])
        self.check(LOW, ASIDE, (50, 25), [925, 1])
        # 5, 490 and 5, -510, one row on each side.
        self.check(LOW, (50, 49), (50, 51), [1000000, 1])

    def test_great_numbers(self):
        places = [points_of(answer) for answer in asked(CROOKED, [("unroll", 61, 96), ("unroll", 22, 34)])]
        length = (places[0][0] - places[1][0]) ** 2 + (places[0][1] - places[1][1]) ** 2
        self.assertGreater(length.denominator, 2 ** 100)
        self.check(CROOKED, (61, 96), (22, 34), [length.numerator, length.denominator])


class ThePart(unittest.TestCase):
    def check(self, marks, first, second, third, wanted):
        self.assertEqual(answered(marks, "part", first, second, third), wanted, (first, second, third))

    def test_the_third_like_the_first_and_like_the_second(self):
        for marks in ALL_FOURS:
            for first, second in itertools.permutations([(0, 0), (7, 30), (7, 96), (61, 96), (99, 99)], 2):
                self.check(marks, first, second, first, [0, 0, 1])
                self.check(marks, first, second, second, [0, 1, 1])

    def test_places_with_the_same_y(self):
        self.check(TILTED, (0, 0), (100, 0), (50, 0), [0, 1, 2])
        self.check(TILTED, (0, 0), (100, 0), (1, 0), [0, 1, 100])
        self.check(TILTED, (0, 0), (50, 0), (100, 0), [0, 2, 1])
        self.check(TILTED, (50, 0), (100, 0), (0, 0), [0, -1, 1])
        self.check(TILTED, (100, 0), (50, 0), (0, 0), [0, 2, 1])
        self.check(TILTED, (40, 0), (50, 0), (0, 0), [0, -4, 1])

    def test_places_with_the_same_x(self):
        # 0, 0; 0, 10; 0, 90.
        self.check(TILTED, (0, 0), (25, 50), (45, 90), [0, 9, 1])
        self.check(TILTED, (0, 0), (45, 90), (25, 50), [0, 1, 9])
        self.check(TILTED, (25, 50), (45, 90), (0, 0), [0, -1, 8])
        self.check(TILTED, (45, 90), (25, 50), (0, 0), [0, 9, 8])

    def test_slanted(self):
        # 0, 0; 10, 10; 5/2, 5/2.
        self.check(TILTED, (0, 0), (75, 50), (30, 20), [0, 1, 4])
        self.check(TILTED, (75, 50), (0, 0), (30, 20), [0, 3, 4])
        self.check(TILTED, (30, 20), (75, 50), (0, 0), [0, -1, 3])
        self.check(TILTED, (30, 20), (0, 0), (75, 50), [0, -3, 1])
        # 20, 40 is beside it.
        self.check(TILTED, (0, 0), (75, 50), (80, 80), [-33])

    def test_from_straight_above(self):
        self.check(ABOVE, (0, 0), (100, 100), (37, 37), [0, 37, 100])
        self.check(ABOVE, (10, 20), (13, 27), (16, 34), [0, 2, 1])
        self.check(ABOVE, (13, 27), (16, 34), (10, 20), [0, -1, 1])
        self.check(ABOVE, (10, 20), (13, 27), (16, 35), [-33])

    def test_the_first_two_the_same(self):
        for marks in ALL_FOURS:
            for point in [(0, 0), (7, 30), (61, 96)]:
                self.check(marks, point, point, (99, 98), [-33])
                self.check(marks, point, point, point, [-33])

    def test_the_third_beside_the_line(self):
        self.check(TILTED, (0, 0), (100, 0), (50, 1), [-33])
        self.check(TILTED, (0, 0), (25, 50), (44, 90), [-33])
        self.check(TILTED, (0, 0), (25, 50), (46, 90), [-33])
        self.check(LOW, NEAR, FAR, ASIDE, [-33])

    def test_the_horizon_ahead_of_minus_33(self):
        # The first two the same; the third beside the line; and on it.
        self.check(TILTED, (3, 4), (3, 4), (50, 100), [-6])
        self.check(TILTED, (50, 100), (50, 100), (3, 4), [-6])
        self.check(TILTED, (50, 100), (50, 100), (50, 100), [-6])
        self.check(TILTED, (0, 0), (100, 0), (50, 100), [-6])
        self.check(TILTED, (0, 0), (50, 100), (100, 0), [-6])
        self.check(TILTED, (50, 100), (0, 0), (100, 0), [-6])
        self.check(TILTED, (0, 0), (25, 50), (50, 100), [-6])
        self.check(TILTED, (0, 100), (50, 100), (100, 100), [-6])

    def test_both_sides_of_the_horizon(self):
        # On the floor what's behind the horizon is on the near one's other side.
        self.check(LOW, NEAR, FAR, BEHIND, [0, -3, 1])
        self.check(LOW, FAR, NEAR, BEHIND, [0, 4, 1])
        self.check(LOW, BEHIND, NEAR, FAR, [0, 4, 3])
        self.check(LOW, BEHIND, FAR, NEAR, [0, 3, 4])
        self.check(LOW, NEAR, BEHIND, FAR, [0, -1, 3])
        # 10, -20; 10, 0; 10, 10.
        self.check(LOW, (100, 0), (75, 25), ASIDE, [0, -2, 1])
        self.check(LOW, ASIDE, (75, 25), (100, 0), [0, 2, 3])

    def test_one_half_at_the_middle(self):
        tried = 0
        for marks in ALL_FOURS:
            for first, second in itertools.permutations([(0, 0), (50, 0), (60, 20), (50, 75), (50, 25), (80, 60)], 2):
                found = answered(marks, "middle", first, second)
                if found[0] == 0 and found[2] == found[4] == 1 and 0 <= min(found[1::2]) and max(found[1::2]) <= 100:
                    tried += 1
                    self.check(marks, first, second, (found[1], found[3]), [0, 1, 2])
        self.assertGreater(tried, 10)

    def test_great_numbers(self):
        # It's on the line from 1, 1 to 100, 100.
        places = asked(CROOKED, [("unroll", 1, 1), ("unroll", 100, 100), ("unroll", 37, 37)])
        places = [points_of(place) for place in places]
        part = (places[2][0] - places[0][0]) / (places[1][0] - places[0][0])
        self.assertEqual(part, (places[2][1] - places[0][1]) / (places[1][1] - places[0][1]))
        self.check(CROOKED, (1, 1), (100, 100), (37, 37), [0, part.numerator, part.denominator])


if __name__ == "__main__":
    unittest.main()
