"""What holds over the whole program: the points a to e of the document."""

import itertools
import unittest

from tests.helping import ALL_FOURS, BOTH_SIDES, FITS, HORIZON, READY, STATE, TILTED
from tests.helping import Steps, asked, whole

CORNERS = [(0, 0), (33, 17), (50, 50), (50, 100), (100, 64), (75, 25)]
THREE = [(1, 1), (4, 9), (7, 17), (50, 50), (50, 75), (0, 100)]


def every_kind():
    """Calls that name no mark by its number, and neither state nor side."""
    calls = [READY, FITS, HORIZON]
    for point in CORNERS:
        calls += [("unroll", *point), ("seen", *point)]
    for first, second in itertools.combinations(CORNERS, 2):
        calls += [(name, *first, *second) for name in ("middle", "apart", "line")]
    for first, second, third in itertools.combinations(THREE, 3):
        calls += [(name, *first, *second, *third) for name in ("part", "straight")]
    return calls


class InAnotherOrder(unittest.TestCase):
    def test_the_same_answers_to_every_call(self):
        calls = every_kind()
        for marks in ALL_FOURS:
            found = asked(marks, calls)
            for order in itertools.permutations(marks):
                self.assertEqual(asked(list(order), calls), found, order)

    def test_with_further_marks(self):
        further = [(5, 10, 50, 51), (9, 9, 9, 9)]
        calls = every_kind()
        found = asked(TILTED + further, calls)
        for order in itertools.permutations(TILTED):
            self.assertEqual(asked(list(order) + further, calls), found, order)

    def test_the_side_is_turned_with_mark_0_alone(self):
        calls = [("side", u, v) for u in range(0, 101, 20) for v in range(0, 101, 10)]
        turned = {0: 0, 1: 2, 2: 1}
        for marks in ALL_FOURS:
            found = asked(marks, calls)
            for order in itertools.permutations(marks):
                same = asked(marks, [("side", *order[0][2:])]) == [[1]]
                wanted = found if same else [[turned[answer[0]]] for answer in found]
                self.assertEqual(asked(list(order), calls), wanted, order)
        self.assertEqual(asked(BOTH_SIDES, [("side", *BOTH_SIDES[2][2:])]), [[2]])

    def test_the_state_and_off_go_by_the_order(self):
        order = TILTED[::-1]
        self.assertEqual(asked(order, [STATE])[0], [4] + [number for mark in order for number in mark])
        swapped = TILTED + [(5, 10, 50, 49), (5, 10, 47, 50)]
        self.assertEqual(asked(swapped, [("off", 4), ("off", 5)]), [whole(0, 1), whole(3, 0)])
        swapped = TILTED + [(5, 10, 47, 50), (5, 10, 50, 49)]
        self.assertEqual(asked(swapped, [("off", 4), ("off", 5)]), [whole(3, 0), whole(0, 1)])


class LinesStayLines(unittest.TestCase):
    def triples(self, seed):
        """Three points of a few, so that many are on a line."""
        steps = Steps(seed)
        for each in range(120):
            yield tuple(25 * steps.below(5) for number in range(6))

    def test_straight_in_the_picture_is_straight_on_the_floor(self):
        for at, marks in enumerate(ALL_FOURS):
            seen = {}
            triples = list(self.triples(at))
            straights = asked(marks, [("straight", *triple) for triple in triples])
            parts = asked(marks, [("part", *triple) for triple in triples])
            for triple, straight, part in zip(triples, straights, parts):
                if part != [-6]:
                    apart = triple[:2] != triple[2:4]
                    self.assertEqual(part[0] == 0, straight == [1] and apart, (marks, triple))
                    seen[(straight[0], apart)] = True
            self.assertEqual(sorted(seen), [(0, True), (1, False), (1, True)])

    def test_three_on_a_line_have_one_line(self):
        for at, marks in enumerate(ALL_FOURS):
            for triple in self.triples(100 + at):
                points = [triple[:2], triple[2:4], triple[4:]]
                if len(set(points)) == 3:
                    pairs = itertools.combinations(points, 2)
                    lines = asked(marks, [("line", *first, *second) for first, second in pairs])
                    same = lines[0] == lines[1] == lines[2]
                    self.assertEqual([[int(same)]], asked(marks, [("straight", *triple)]), triple)

    def seen_inside(self, marks, places):
        """Where the places are seen, as far as that's in whole numbers and in range."""
        found = []
        for answer in asked(marks, [("seen", *place) for place in places]):
            if answer[0] == 0 and answer[2] == answer[4] == 1:
                if 0 <= min(answer[1], answer[3]) and max(answer[1], answer[3]) <= 100:
                    found.append((answer[1], answer[3]))
        return found

    def test_what_is_on_the_floors_line_is_seen_on_the_pictures(self):
        # BOTH_SIDES has some of them behind the horizon.
        tried = 0
        for marks in ALL_FOURS:
            for line, places in (
                ([1, 0, -5], [(5, k) for k in range(101)]),
                ([0, 1, -10], [(k, 10) for k in range(101)]),
                ([3, -1, -15], [(5 + k, 3 * k) for k in range(34)]),
            ):
                inside = self.seen_inside(marks, places)[:12]
                for three in itertools.combinations(inside, 3):
                    tried += 1
                    self.assertEqual(asked(marks, [("straight", *itertools.chain(*three))]), [[1]], three)
                for first, second in itertools.combinations(inside, 2):
                    self.assertEqual(asked(marks, [("line", *first, *second)]), [[0] + line], (first, second))
        self.assertGreater(tried, 100)


class BeyondAll(unittest.TestCase):
    def test_it_is_just_what_is_on_the_horizon(self):
        for marks in ALL_FOURS:
            horizon = asked(marks, [HORIZON])[0]
            line = [0, 0, 1] if horizon == [-33] else horizon[1:]
            points = [(u, v) for u in range(0, 101, 5) for v in range(0, 101, 5)]
            unrolled = asked(marks, [("unroll", *point) for point in points])
            sides = asked(marks, [("side", *point) for point in points])
            apart = asked(marks, [("apart", *point, *marks[0][2:]) for point in points])
            for point, place, side, far in zip(points, unrolled, sides, apart):
                on = line[0] * point[0] + line[1] * point[1] + line[2] == 0
                self.assertEqual((place == [-6], side == [0], far == [-6]), (on, on, on), point)


if __name__ == "__main__":
    unittest.main()
