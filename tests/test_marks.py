"""Point 1: start, mark, unmark, ready, state; and what every call answers before a start."""

import unittest

from tests.helping import ABOVE, CROOKED, FITS, HORIZON, LEAST, MOST, NAMES, POINT_NUMBERS, READY, START, STATE, TILTED
from tests.helping import TURNED
from tests.helping import asked, marked, said, whole

EIGHT = [(k, 2 * k, 3 * k, 4 * k) for k in range(8)]

# Three on a line, and one that isn't.
ON_A_LINE = [(0, 0), (10, 20), (30, 60)]
BESIDE = (50, 0)
SQUARE = [(5, 5), (95, 5), (90, 80), (10, 85)]


def four_places(left_out, three, other):
    """Four places: the other one where it's left out, the three else."""
    places = list(three)
    places.insert(left_out, other)
    return places


def joined(places, points):
    return [place + point for place, point in zip(places, points)]


def is_ready(marks):
    return asked(marks, [READY])[0]


class BeforeAStart(unittest.TestCase):
    def each_call(self, number):
        """Each call but start, with that number for every one of a point."""
        calls = [("unmark", 0), READY, ("off", 0), FITS, HORIZON, STATE]
        calls += [(name,) + (number,) * many for name, many in POINT_NUMBERS.items()]
        self.assertEqual(sorted([call[0] for call in calls] + ["start"]), sorted(NAMES))
        return calls

    def test_every_call_answers_minus_11(self):
        calls = self.each_call(7)
        for call in calls:
            self.assertEqual(said([call]), [[-11]], call)
            self.assertEqual(said([call, START]), [[-11], [0]], call)
        self.assertEqual(said(calls + calls), [[-11]] * 30)

    def test_it_comes_ahead_of_every_other_refusal(self):
        for number in (-1, 101, LEAST, MOST):
            for call in self.each_call(number):
                self.assertEqual(said([call]), [[-11]], call)
        self.assertEqual(said([("unmark", MOST), ("off", MOST)]), [[-11]] * 2)

    def test_behind_a_start_none_does(self):
        for call in self.each_call(7):
            self.assertNotEqual(said([START, call])[1], [-11], call)
            self.assertNotEqual(said([call, START, call])[2], [-11], call)

    def test_what_is_refused_then_is_not_kept(self):
        calls = [("mark",) + mark for mark in TILTED] + [START, READY, ("off", 0), ("mark", 1, 2, 3, 4)]
        self.assertEqual(said(calls)[4:], [[0], [0], [-2], [0]])


class Starting(unittest.TestCase):
    def test_it_answers_0(self):
        self.assertEqual(said([START]), [[0]])
        self.assertEqual(said([START, START, START]), [[0], [0], [0]])

    def test_there_are_no_marks_then(self):
        self.assertEqual(said([START, READY, ("unmark", 0), ("off", 0), FITS]), [[0], [0], [-2], [-2], [-16]])

    def test_started_again_the_marks_are_gone(self):
        again = [START, READY, ("off", 0), ("unmark", 0), ("unroll", 1, 1), ("mark", 9, 9, 9, 9)]
        self.assertEqual(asked(TILTED, [READY] + again), [[1], [0], [0], [-2], [-2], [-16], [0]])

    def test_started_again_there_is_room_for_eight(self):
        calls = marked(EIGHT) + marked(EIGHT) + [("mark", 0, 0, 0, 0)]
        numbered = [[0]] + [[k] for k in range(8)]
        self.assertEqual(said(calls), numbered + numbered + [[-28]])

    def test_started_again_the_view_is_the_new_ones(self):
        self.assertEqual(said(marked(TILTED) + marked(ABOVE) + [("seen", 7, 9)])[-1], whole(34, 38))


class Marking(unittest.TestCase):
    def test_the_numbers_from_0_to_7(self):
        self.assertEqual(said(marked(EIGHT)), [[0]] + [[k] for k in range(8)])

    def test_the_ninth_is_refused(self):
        self.assertEqual(asked(EIGHT, [("mark", 1, 1, 1, 1), ("mark", 100, 0, 100, 0)]), [[-28], [-28]])

    def test_there_is_room_again_behind_an_unmark(self):
        calls = [("mark", 1, 1, 1, 1), ("unmark", 3), ("mark", 1, 1, 1, 1), ("mark", 1, 1, 1, 1)]
        self.assertEqual(asked(EIGHT, calls), [[-28], [7], [7], [-28]])

    def test_what_is_out_of_range(self):
        for at in range(4):
            for number in (-1, 101, LEAST, MOST, -100, 1000):
                mark = [50, 50, 50, 50]
                mark[at] = number
                self.assertEqual(said([START, ("mark", *mark)]), [[0], [-22]], mark)

    def test_0_and_100_are_taken(self):
        for at in range(4):
            for number in (0, 100):
                mark = [50, 50, 50, 50]
                mark[at] = number
                self.assertEqual(said([START, ("mark", *mark)]), [[0], [0]], mark)
        self.assertEqual(asked([(0, 0, 0, 0)], [("mark", 100, 100, 100, 100)]), [[1]])

    def test_a_refused_one_takes_no_number(self):
        calls = [START, ("mark", 0, 0, 0, 101), ("mark", 1, 1, 1, 1), ("mark", -1, 0, 0, 0), ("mark", 1, 1, 1, 1)]
        self.assertEqual(said(calls), [[0], [-22], [0], [-22], [1]])

    def test_out_of_range_ahead_of_no_room(self):
        self.assertEqual(asked(EIGHT, [("mark", 0, 0, 101, 0), ("mark", -1, 0, 0, 0)]), [[-22], [-22]])

    def test_the_same_mark_twice_is_two(self):
        self.assertEqual(said(marked([(1, 2, 3, 4)] * 3)), [[0], [0], [1], [2]])


class Unmarking(unittest.TestCase):
    def test_none_such(self):
        self.assertEqual(said([START, ("unmark", 0), ("unmark", MOST)]), [[0], [-2], [-2]])
        self.assertEqual(asked(EIGHT[:3], [("unmark", 3), ("unmark", 4), ("unmark", MOST)]), [[-2]] * 3)
        self.assertEqual(asked(EIGHT, [("unmark", 8), ("unmark", 7), ("unmark", 7)]), [[-2], [7], [-2]])

    def test_a_refused_one_takes_nothing_away(self):
        self.assertEqual(asked(TILTED, [("unmark", 4), READY, ("unmark", 3)]), [[-2], [1], [3]])

    def test_how_many_are_left(self):
        calls = [("unmark", 0)] * 9
        self.assertEqual(asked(EIGHT, calls), [[k] for k in range(7, -1, -1)] + [[-2]])

    def test_those_behind_have_one_number_less(self):
        # From straight above the further ones are off by 1, 2, 3 and 4 in u.
        marks = ABOVE + [(20, 20, 60 - k, 60) for k in (1, 2, 3, 4)]
        offs = [("off", k) for k in range(4, 8)]
        self.assertEqual(asked(marks, offs), [whole(k, 0) for k in (1, 2, 3, 4)])
        found = asked(marks, [("unmark", 5)] + offs)
        self.assertEqual(found, [[7], whole(1, 0), whole(3, 0), whole(4, 0), [-2]])
        found = asked(marks, [("unmark", 7)] + offs)
        self.assertEqual(found, [[7], whole(1, 0), whole(2, 0), whole(3, 0), [-2]])
        found = asked(marks, [("unmark", 4), ("unmark", 4)] + offs)
        self.assertEqual(found, [[7], [6], whole(3, 0), whole(4, 0), [-2], [-2]])

    def test_the_first_four_are_others_then(self):
        # The first is of another view than the four behind it.
        calls = [("seen", 7, 9), ("unmark", 0), ("seen", 7, 9)]
        self.assertEqual(asked([(50, 60, 10, 80)] + ABOVE, calls)[1:], [[4], whole(34, 38)])


class BeingReady(unittest.TestCase):
    def test_fewer_than_four(self):
        for many in range(4):
            self.assertEqual(is_ready(TILTED[:many]), [0], many)

    def test_four_of_which_no_three_are_on_a_line(self):
        for marks in (TILTED, TURNED, ABOVE, CROOKED):
            self.assertEqual(is_ready(marks), [1], marks)

    def test_three_on_a_line_on_the_floor_alone(self):
        for left_out in range(4):
            places = four_places(left_out, ON_A_LINE, BESIDE)
            self.assertEqual(is_ready(joined(places, SQUARE)), [0], left_out)

    def test_three_on_a_line_in_the_picture_alone(self):
        for left_out in range(4):
            points = four_places(left_out, ON_A_LINE, BESIDE)
            self.assertEqual(is_ready(joined(SQUARE, points)), [0], left_out)

    def test_lines_of_every_direction(self):
        for three in ([(0, 7), (50, 7), (100, 7)], [(7, 0), (7, 1), (7, 100)], [(0, 99), (33, 66), (99, 0)]):
            for left_out in range(4):
                four = four_places(left_out, three, (60, 70))
                self.assertEqual(is_ready(joined(four, SQUARE)), [0], four)
                self.assertEqual(is_ready(joined(SQUARE, four)), [0], four)

    def test_three_almost_on_a_line(self):
        for left_out in range(4):
            four = four_places(left_out, [(0, 0), (50, 50), (100, 99)], (80, 3))
            self.assertEqual(is_ready(joined(four, SQUARE)), [1], left_out)
            self.assertEqual(is_ready(joined(SQUARE, four)), [1], left_out)

    def test_two_in_one_place(self):
        for first in range(4):
            for second in range(first):
                four = list(SQUARE)
                four[first] = four[second]
                self.assertEqual(is_ready(joined(four, SQUARE)), [0], four)
                self.assertEqual(is_ready(joined(SQUARE, four)), [0], four)
                self.assertEqual(is_ready(joined(four, four)), [0], four)

    def test_all_in_one_place(self):
        self.assertEqual(is_ready([(3, 4, 5, 6)] * 4), [0])

    def test_a_fifth_changes_nothing(self):
        bad = joined(four_places(1, ON_A_LINE, BESIDE), SQUARE)
        for fifth in [(0, 0, 0, 0), (5, 5, 5, 5), (20, 40, 77, 3), (100, 100, 100, 100)]:
            self.assertEqual(is_ready(TILTED + [fifth]), [1], fifth)
            self.assertEqual(is_ready(TILTED + [fifth] * 4), [1], fifth)
            self.assertEqual(is_ready(bad + [fifth]), [0], fifth)

    def test_after_an_unmark_the_first_four_are_others(self):
        doubled = [TILTED[0]] + TILTED
        self.assertEqual(asked(doubled, [READY, ("unmark", 0), READY]), [[0], [4], [1]])
        self.assertEqual(asked(doubled, [READY, ("unmark", 1), READY]), [[0], [4], [1]])
        self.assertEqual(asked(doubled, [READY, ("unmark", 4), READY]), [[0], [4], [0]])
        last_twice = TILTED + [TILTED[3]]
        self.assertEqual(asked(last_twice, [READY, ("unmark", 0), READY]), [[1], [4], [0]])
        self.assertEqual(asked(last_twice, [READY, ("unmark", 3), READY]), [[1], [4], [1]])
        self.assertEqual(asked(TILTED, [READY, ("unmark", 2), READY]), [[1], [3], [0]])


class TellingTheState(unittest.TestCase):
    def check(self, calls, marks):
        told = [len(marks)]
        for mark in marks:
            told.extend(mark)
        self.assertEqual(said(calls + [STATE])[-1], told)

    def test_no_marks(self):
        self.assertEqual(said([START, STATE]), [[0], [0]])
        self.assertEqual(said(marked(EIGHT) + [START, STATE])[-1], [0])

    def test_each_ones_numbers_in_their_order(self):
        self.assertEqual(said([START, ("mark", 1, 2, 3, 4), STATE])[-1], [1, 1, 2, 3, 4])
        found = said(marked([(100, 0, 7, 50), (0, 100, 50, 7)]) + [STATE])[-1]
        self.assertEqual(found, [2, 100, 0, 7, 50, 0, 100, 50, 7])

    def test_from_one_to_eight(self):
        for many in range(1, 9):
            self.check(marked(EIGHT[:many]), EIGHT[:many])

    def test_ready_or_not(self):
        for marks in (TILTED, TILTED + [(5, 10, 50, 51)], [(3, 4, 5, 6)] * 4):
            self.check(marked(marks), marks)

    def test_after_an_unmark(self):
        for at in range(8):
            self.check(marked(EIGHT) + [("unmark", at)], EIGHT[:at] + EIGHT[at + 1:])
        self.check(marked(EIGHT) + [("unmark", 2), ("unmark", 2)], EIGHT[:2] + EIGHT[4:])
        self.check(marked(EIGHT) + [("unmark", 0), ("mark", 9, 8, 7, 6)], EIGHT[1:] + [(9, 8, 7, 6)])
        self.check(marked(EIGHT[:1]) + [("unmark", 0)], [])

    def test_what_is_refused_changes_nothing(self):
        refused = [("mark", 1, 1, 1, 1), ("mark", 0, 0, 0, 101), ("unmark", 8), ("off", 8), ("unroll", 101, 0)]
        self.check(marked(EIGHT) + refused, EIGHT)

    def test_no_other_call_changes_it(self):
        asking = [READY, FITS, HORIZON, STATE, ("off", 1)]
        asking += [(name,) + tuple(range(many)) for name, many in POINT_NUMBERS.items() if name != "mark"]
        self.check(marked(TILTED) + asking, TILTED)


if __name__ == "__main__":
    unittest.main()
