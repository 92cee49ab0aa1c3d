"""Point 2: unroll, seen, off, fits; and what holds, as far as these show it."""

import itertools
import unittest

from tests.helping import ABOVE, ALL_FOURS, BAD_PLACES, CROOKED, FITS, LEAST, LOW, MOST, NOT_READY, START, TILTED
from tests.helping import TURNED
from tests.helping import area, asked, points_of, said, whole

OUTSIDE = (-1, 101, LEAST, MOST)
WIDE = [(k, j) for k in range(0, 101, 4) for j in range(0, 101, 4)]


class Refusing(unittest.TestCase):
    def test_out_of_range(self):
        for name in ("unroll", "seen"):
            for number in OUTSIDE:
                calls = [(name, number, 50), (name, 50, number), (name, number, number)]
                self.assertEqual(asked(TILTED, calls), [[-22]] * 3, number)

    def test_not_ready(self):
        for name in ("unroll", "seen"):
            for marks in NOT_READY:
                self.assertEqual(asked(marks, [(name, 0, 0), (name, 100, 100)]), [[-16], [-16]], marks)

    def test_out_of_range_ahead_of_not_ready(self):
        for name in ("unroll", "seen"):
            for number in OUTSIDE:
                calls = [(name, number, 50), (name, 50, number)]
                self.assertEqual(said([START] + calls)[1:], [[-22]] * 2)
                self.assertEqual(asked(BAD_PLACES, calls), [[-22]] * 2)

    def test_0_and_100_are_taken(self):
        for name in ("unroll", "seen"):
            corners = [(name, k, j) for k in (0, 100) for j in (0, 100)]
            for answer in asked(CROOKED, corners):
                self.assertEqual((answer[0], len(answer)), (0, 5))


class Unrolling(unittest.TestCase):
    def test_the_four_marks(self):
        for marks in ALL_FOURS:
            calls = [("unroll", mark[2], mark[3]) for mark in marks]
            self.assertEqual(asked(marks, calls), [whole(*mark[:2]) for mark in marks])

    def test_whole_ones_and_0(self):
        self.assertEqual(asked(TILTED, [("unroll", 50, 50)]), [whole(5, 10)])
        self.assertEqual(asked(TILTED, [("unroll", 45, 90)]), [whole(0, 90)])

    def test_fractions(self):
        # x is (10u - 5v) / (100 - v), y is 10v / (100 - v).
        self.assertEqual(asked(TILTED, [("unroll", 7, 30)]), [[0, -8, 7, 30, 7]])
        self.assertEqual(asked(TILTED, [("unroll", 1, 0)]), [[0, 1, 10, 0, 1]])
        self.assertEqual(asked(TILTED, [("unroll", 0, 99)]), [whole(-495, 990)])
        self.assertEqual(asked(TILTED, [("unroll", 97, 60)]), [[0, 67, 4, 15, 1]])

    def test_on_the_horizon(self):
        for u in range(101):
            self.assertEqual(asked(TILTED, [("unroll", u, 100)]), [[-6]], u)
            self.assertEqual(asked(TILTED, [("unroll", u, 99)])[0][0], 0, u)

    def test_behind_the_horizon(self):
        calls = [("unroll", 50, 50), ("unroll", 50, 75), ("unroll", 0, 100), ("unroll", 50, 49)]
        self.assertEqual(asked(LOW, calls), [[-6], whole(5, -30), whole(10, -20), whole(5, 490)])

    def test_a_slanted_horizon(self):
        # u is 60x / (x + y + 1), v is 60y / (x + y + 1); the horizon: u + v is 60.
        marks = [(0, 0, 0, 0), (1, 0, 30, 0), (0, 1, 0, 30), (1, 1, 20, 20)]
        for u in range(61):
            calls = [("unroll", u, 60 - u), ("unroll", u, 61 - u)]
            self.assertEqual(asked(marks, calls), [[-6], whole(-u, u - 61)])


class Seeing(unittest.TestCase):
    def test_the_four_marks(self):
        for marks in ALL_FOURS:
            calls = [("seen", mark[0], mark[1]) for mark in marks]
            self.assertEqual(asked(marks, calls), [whole(*mark[2:]) for mark in marks])

    def test_whole_ones_and_fractions(self):
        calls = [("seen", 5, 10), ("seen", 0, 90), ("seen", 100, 100), ("seen", 1, 1), ("seen", 100, 0)]
        found = [whole(50, 50), whole(45, 90), [0, 1500, 11, 1000, 11], [0, 150, 11, 100, 11], whole(1000, 0)]
        self.assertEqual(asked(TILTED, calls), found)

    def test_beyond_all(self):
        for x in range(101):
            calls = [("seen", x, 30), ("seen", x, 29), ("seen", x, 31)]
            found = [[-6], whole(100 * x - 450, -900), whole(550 - 100 * x, 1100)]
            self.assertEqual(asked(TURNED, calls), found, x)

    def test_below_0(self):
        # Behind the one who sees u is (100x + 1000 - 50y) / (30 - y).
        self.assertEqual(asked(TURNED, [("seen", 1, 37)]), [[0, 750, 7, 1700, 7]])
        self.assertEqual(asked(TURNED, [("seen", 100, 37)]), [[0, -9150, 7, 1700, 7]])
        self.assertEqual(asked(TURNED, [("seen", 0, 25)]), [whole(-50, -100)])


class ThereAndBack(unittest.TestCase):
    def check(self, there, back):
        """What goes to whole numbers in range comes back to where it was."""
        for marks in ALL_FOURS:
            pairs = []
            for one, answer in zip(WIDE, asked(marks, [(there, *one) for one in WIDE])):
                if answer[0] == 0 and answer[2] == 1 and answer[4] == 1:
                    if 0 <= min(answer[1], answer[3]) and max(answer[1], answer[3]) <= 100:
                        pairs.append((one, (answer[1], answer[3])))
            found = asked(marks, [(back, *pair[1]) for pair in pairs])
            self.assertEqual(found, [whole(*pair[0]) for pair in pairs])

    def test_seen_and_unrolled(self):
        self.check("seen", "unroll")

    def test_unrolled_and_seen(self):
        self.check("unroll", "seen")

    def test_some_go_there_and_back(self):
        there = [whole(50, 50), whole(45, 90), whole(50, 0), whole(95, 90)]
        places = [(5, 10), (0, 90), (5, 0), (50, 90)]
        self.assertEqual(asked(TILTED, [("seen", *place) for place in places]), there)
        calls = [("unroll", answer[1], answer[3]) for answer in there]
        self.assertEqual(asked(TILTED, calls), [whole(*place) for place in places])


class FromStraightAbove(unittest.TestCase):
    def test_unrolled(self):
        calls = [("unroll", 20, 20), ("unroll", 0, 0), ("unroll", 25, 100), ("unroll", 19, 21)]
        found = [whole(0, 0), whole(-10, -10), [0, 5, 2, 40, 1], [0, -1, 2, 1, 2]]
        self.assertEqual(asked(ABOVE, calls), found)

    def test_seen(self):
        calls = [("seen", 0, 0), ("seen", 100, 100), ("seen", 7, 9)]
        self.assertEqual(asked(ABOVE, calls), [whole(20, 20), whole(220, 220), whole(34, 38)])

    def test_the_floor_itself(self):
        marks = [(0, 0, 0, 0), (100, 0, 100, 0), (100, 100, 100, 100), (0, 100, 0, 100)]
        for name in ("unroll", "seen"):
            self.assertEqual(asked(marks, [(name, *one) for one in WIDE]), [whole(*one) for one in WIDE])

    def test_unit_squares_either_way_round(self):
        # The smallest numbers there are: what's below is 1 or -1 by itself.
        unit = [(0, 0), (1, 0), (1, 1), (0, 1)]
        for order in itertools.permutations(unit):
            straight = [place + place for place in order]
            mirrored = [(x, y, y, x) for x, y in order]
            for name in ("unroll", "seen"):
                self.assertEqual(asked(straight, [(name, 3, 8), (name, 0, 1)]), [whole(3, 8), whole(0, 1)])
                self.assertEqual(asked(mirrored, [(name, 3, 8), (name, 0, 1)]), [whole(8, 3), whole(1, 0)])

    def test_nothing_is_beyond_all(self):
        for name in ("unroll", "seen"):
            for answer in asked(ABOVE, [(name, *one) for one in WIDE]):
                self.assertEqual(answer[0], 0)


class GreatNumbers(unittest.TestCase):
    def test_beyond_what_a_float_holds(self):
        calls = [("unroll", 61, 96), ("seen", 61, 96), ("unroll", 22, 34)]
        found = [
            [0, 59827881898640649, 660660913110493, 23363403238868641, 660660913110493],
            [0, 2889963474449044, 82160276360717, 21309832690960353, 575121934525019],
            [0, 21031912142784, 148687345663, -103153889156894, 148687345663],
        ]
        self.assertEqual(asked(CROOKED, calls), found)


class BeingOff(unittest.TestCase):
    def test_none_such(self):
        self.assertEqual(asked(TILTED, [("off", 4), ("off", 5), ("off", MOST)]), [[-2]] * 3)
        self.assertEqual(said([START, ("off", 0)]), [[0], [-2]])

    def test_not_ready(self):
        for marks in (TILTED[:3], BAD_PLACES, TILTED[:1]):
            calls = [("off", k) for k in range(len(marks))]
            self.assertEqual(asked(marks, calls), [[-16]] * len(marks))

    def test_none_such_ahead_of_not_ready(self):
        self.assertEqual(asked(TILTED[:3], [("off", 3), ("off", 2)]), [[-2], [-16]])
        self.assertEqual(asked(BAD_PLACES, [("off", 4), ("off", MOST)]), [[-2], [-2]])

    def test_the_first_four_are_not_off(self):
        for marks in ALL_FOURS:
            calls = [("off", k) for k in range(4)]
            self.assertEqual(asked(marks + [(50, 60, 70, 80)], calls), [whole(0, 0)] * 4)

    def test_a_fifth_that_fits(self):
        self.assertEqual(asked(TILTED + [(5, 10, 50, 50)], [("off", 4)]), [whole(0, 0)])

    def test_the_sign_tells_how_much_more_it_is_where_it_is_seen(self):
        # It's seen at 50, 50.
        for u, v in ((50, 50), (40, 50), (50, 70), (53, 41), (100, 0)):
            self.assertEqual(asked(TILTED + [(5, 10, u, v)], [("off", 4)]), [whole(50 - u, 50 - v)])

    def test_fractions(self):
        # It's seen at 150/11, 100/11.
        found = asked(TILTED + [(1, 1, 13, 10), (1, 1, 14, 9)], [("off", 4), ("off", 5)])
        self.assertEqual(found, [[0, 7, 11, -10, 11], [0, -4, 11, 1, 11]])
        # It's seen at 200/12, 200/12.
        self.assertEqual(asked(TILTED + [(1, 2, 14, 2)], [("off", 4)]), [[0, 8, 3, 44, 3]])

    def test_behind_the_one_who_sees(self):
        # They're seen at -550/-1, -1100/-1 and at 350/-1, -1100/-1.
        found = asked(TURNED + [(0, 31, 7, 9), (9, 31, 7, 9)], [("off", 4), ("off", 5)])
        self.assertEqual(found, [whole(543, 1091), whole(-357, 1091)])

    def test_seen_beyond_all(self):
        found = asked(TURNED + [(5, 30, 50, 50), (5, 29, 50, 0)], [("off", 4), ("off", 5)])
        self.assertEqual(found, [[-6], whole(0, -900)])


class Fitting(unittest.TestCase):
    def test_not_ready(self):
        for marks in NOT_READY:
            self.assertEqual(asked(marks, [FITS]), [[-16]], marks)

    def test_just_four(self):
        for marks in ALL_FOURS:
            self.assertEqual(asked(marks, [FITS]), [[1]])

    def test_a_fifth_that_fits(self):
        self.assertEqual(asked(TILTED + [(5, 10, 50, 50)], [FITS]), [[1]])
        self.assertEqual(asked(TILTED + [TILTED[0]], [FITS]), [[1]])

    def test_four_more_that_fit(self):
        more = [(5, 10, 50, 50), (0, 90, 45, 90), (5, 0, 50, 0), (50, 90, 95, 90)]
        self.assertEqual(asked(TILTED + more, [FITS]), [[1]])
        for at in range(4):
            worse = list(more)
            worse[at] = more[at][:2] + (more[at][2] - 1, more[at][3])
            self.assertEqual(asked(TILTED + worse, [FITS]), [[0]], worse)

    def test_one_that_does_not(self):
        for fifth in [(5, 10, 50, 51), (5, 10, 51, 50), (5, 10, 49, 49), (1, 1, 14, 9), (0, 0, 0, 1)]:
            self.assertEqual(asked(TILTED + [fifth], [FITS]), [[0]], fifth)

    def test_one_that_is_seen_beyond_all(self):
        for fifth in [(5, 30, 50, 50), (5, 30, 0, 0), (0, 30, 0, 100)]:
            self.assertEqual(asked(TURNED + [fifth], [FITS]), [[0]], fifth)

    def test_it_fits_again_when_the_wrong_one_is_gone(self):
        calls = [FITS, ("unmark", 4), FITS]
        self.assertEqual(asked(TILTED + [(5, 10, 50, 51), (5, 10, 50, 50)], calls), [[0], [5], [1]])


class WhatHolds(unittest.TestCase):
    def test_the_four_in_another_order(self):
        calls = [("unroll", k, j) for k in (0, 33, 50, 100) for j in (0, 17, 64, 100)]
        calls += [("seen", k, j) for k in (0, 33, 50, 100) for j in (0, 30, 64, 100)]
        for marks in ALL_FOURS:
            found = asked(marks, calls)
            for order in itertools.permutations(marks):
                self.assertEqual(asked(list(order), calls), found, order)

    def test_one_view_alone(self):
        # Any four that fit make the view once more.
        fitting = TILTED + [(5, 10, 50, 50), (0, 90, 45, 90), (50, 90, 95, 90)]
        calls = [("unroll", 7, 30), ("unroll", 50, 100), ("seen", 1, 1), FITS]
        made = 0
        for four in itertools.combinations(fitting, 4):
            found = asked(list(four), [("ready",)] + calls)
            if found[0] == [1]:
                made += 1
                self.assertEqual(found[1:], [[0, -8, 7, 30, 7], [-6], [0, 150, 11, 100, 11], [1]], four)
        self.assertGreater(made, 10)

    def test_lines_stay_lines(self):
        on_a_line = [(10, 20), (25, 30), (40, 40), (85, 70)]
        beside = (40, 41)
        for marks in ALL_FOURS:
            for name in ("unroll", "seen"):
                found = asked(marks, [(name, *one) for one in on_a_line + [beside]])
                if [-6] in found:
                    continue
                places = [points_of(answer) for answer in found]
                self.assertEqual(area(places[0], places[1], places[2]), 0)
                self.assertEqual(area(places[0], places[1], places[3]), 0)
                self.assertNotEqual(area(places[0], places[1], places[4]), 0)

    def test_the_order_of_the_further_ones_changes_no_view(self):
        further = [(50, 60, 70, 80), (5, 10, 50, 50), (9, 9, 9, 9)]
        calls = [("unroll", 7, 30), ("seen", 1, 1)]
        for order in itertools.permutations(further):
            self.assertEqual(asked(TILTED + list(order), calls), asked(TILTED, calls))


if __name__ == "__main__":
    unittest.main()
