"""The interface: the form of what is handed in and given back."""

import unittest

import floorunroll.picture
from floorunroll.picture import answers

from tests.helping import FITS, HORIZON, NAMES, POINT_NUMBERS, READY, STATE, TILTED
from tests.helping import flat, marked, said
from tests.modelling import modelled

# All 16 calls, with what each answers.
TOLD = [
    (STATE, [-11]),
    *zip(marked(TILTED), ([0], [0], [1], [2], [3])),
    (READY, [1]),
    (("unroll", 50, 50), [0, 5, 1, 10, 1]),
    (("unroll", 50, 100), [-6]),
    (("seen", 1, 1), [0, 150, 11, 100, 11]),
    (("off", 3), [0, 0, 1, 0, 1]),
    (("off", 9), [-2]),
    (FITS, [1]),
    (HORIZON, [0, 0, 1, -100]),
    (("side", 7, 99), [1]),
    (("side", 7, 100), [0]),
    (("middle", 50, 0, 50, 50), [0, 50, 1, 100, 3]),
    (("apart", 7, 30, 0, 0), [0, 964, 49]),
    (("apart", 7, 30, 0, 100), [-6]),
    (("part", 25, 50, 45, 90, 0, 0), [0, -1, 8]),
    (("part", 25, 50, 25, 50, 0, 0), [-33]),
    (("line", 100, 0, 75, 50), [0, 1, 0, -10]),
    (("line", 100, 0, 100, 0), [-17]),
    (("straight", 0, 0, 25, 50, 45, 90), [1]),
    (("unroll", 101, 0), [-22]),
    (STATE, [4, 0, 0, 0, 0, 10, 0, 100, 0, 10, 10, 75, 50, 0, 10, 25, 50]),
    (("mark", 5, 10, 50, 49), [4]),
    (FITS, [0]),
    (("unmark", 3), [4]),
    (READY, [1]),
    (("unmark", 3), [3]),
    (HORIZON, [-16]),
    (STATE, [3, 0, 0, 0, 0, 10, 0, 100, 0, 10, 10, 75, 50]),
]
MIXED = flat([call for call, answer in TOLD])
ANSWERED = [number for call, answer in TOLD for number in [len(answer)] + answer]


class Sealed(list):
    """A list that tells when it's changed, be it for a while."""

    def refuse(self, *args, **kwargs):
        raise AssertionError("what is handed in is changed")

    append = extend = insert = pop = remove = clear = reverse = sort = refuse
    __setitem__ = __delitem__ = __iadd__ = __imul__ = refuse


class TheForm(unittest.TestCase):
    def test_counts_ahead_of_each_answer(self):
        self.assertEqual(answers([0]), [1, 0])
        self.assertEqual(answers([3]), [1, -11])
        self.assertEqual(answers([0, 3]), [1, 0, 1, 0])
        self.assertEqual(answers([0, 15, 1, 9, 8, 7, 6, 15]), [1, 0, 1, 0, 1, 0, 5, 1, 9, 8, 7, 6])
        self.assertEqual(answers(MIXED), ANSWERED)

    def test_each_call_by_its_number(self):
        self.assertEqual({call[0] for call, answer in TOLD}, set(NAMES))
        square = [0, 1, 0, 0, 0, 0, 1, 10, 0, 100, 0, 1, 10, 10, 75, 50, 1, 0, 10, 25, 50]
        for handed, answered in (
            ([8], [0, 0, 1, -100]), ([9, 7, 99], [1]), ([10, 50, 0, 50, 50], [0, 50, 1, 100, 3]),
            ([11, 7, 30, 0, 0], [0, 964, 49]), ([12, 25, 50, 45, 90, 0, 0], [0, -1, 8]),
            ([13, 100, 0, 75, 50], [0, 1, 0, -10]), ([14, 0, 0, 25, 50, 45, 91], [0]),
            ([15], [4, 0, 0, 0, 0, 10, 0, 100, 0, 10, 10, 75, 50, 0, 10, 25, 50]),
        ):
            self.assertEqual(answers(square + handed)[10:], [len(answered)] + answered)

    def test_plain_whole_numbers_in_a_plain_list(self):
        found = answers(MIXED)
        self.assertIs(type(found), list)
        for number in found:
            self.assertIs(type(number), int)

    def test_by_its_full_name(self):
        self.assertEqual(floorunroll.picture.answers(calls=[0]), [1, 0])

    def test_two_hundred_calls(self):
        calls = marked(TILTED) + [("unroll", k % 101, 3 * k % 101) for k in range(195)]
        found = said(calls)
        self.assertEqual(len(found), 200)
        for call, answer in zip(calls[5:], found[5:]):
            u, v = call[1:]
            self.assertEqual(answer, [-6] if v == 100 else said(marked(TILTED) + [call])[-1])

    def test_two_hundred_calls_of_the_longest_kinds(self):
        self.assertEqual(answers([0] + [1, 0, 0, 0, 0] * 199)[:4], [1, 0, 1, 0])
        self.assertEqual(answers([0] + [1, 0, 0, 0, 0] * 199)[-2:], [1, -28])
        self.assertEqual(answers([0] * 200), [1, 0] * 200)
        longest = [0] + [12, 1, 2, 3, 4, 5, 6] * 199
        self.assertLessEqual(len(longest), 1400)
        self.assertEqual(answers(longest), [1, 0] + [1, -16] * 199)
        self.assertEqual(answers([0] + [14, 1, 2, 3, 4, 5, 6] * 199), [1, 0] + [1, 1] * 199)

    def test_two_hundred_calls_of_all_kinds(self):
        calls = marked(TILTED)
        while len(calls) < 200:
            k = len(calls)
            name = NAMES[3 + k % 13]
            numbers = [(k * j) % 101 for j in range(3, 3 + POINT_NUMBERS.get(name, 0))]
            calls.append(("off", k % 5) if name == "off" else (name, *numbers))
        self.assertEqual(len(calls), 200)
        self.assertEqual(said(calls), modelled(calls))

    def test_two_hundred_times_the_state_of_eight(self):
        calls = marked([(k, k, k, k) for k in range(8)]) + [STATE] * 191
        found = said(calls)
        self.assertEqual(len(found), 200)
        self.assertEqual(found[9:], [[8] + [k // 4 for k in range(32)]] * 191)


class NothingKept(unittest.TestCase):
    def test_the_list_handed_in_is_as_it_was(self):
        handed = list(MIXED)
        answers(handed)
        self.assertEqual(handed, MIXED)

    def test_it_is_not_changed_for_a_while_either(self):
        self.assertEqual(answers(Sealed(MIXED)), ANSWERED)

    def test_the_same_list_twice(self):
        handed = list(MIXED)
        self.assertEqual(answers(handed), ANSWERED)
        self.assertEqual(answers(handed), ANSWERED)

    def test_what_is_given_back_is_new_each_time(self):
        found = answers(MIXED)
        found.clear()
        self.assertEqual(answers(MIXED), ANSWERED)

    def test_each_list_is_on_a_new_object(self):
        answers(flat(marked(TILTED)))
        self.assertEqual(answers([3]), [1, -11])
        self.assertEqual(answers([0, 3]), [1, 0, 1, 0])
        self.assertEqual(answers([0, 6, 0]), [1, 0, 1, -2])
        self.assertEqual(answers([15, 0, 15]), [1, -11, 1, 0, 1, 0])


if __name__ == "__main__":
    unittest.main()
