"""The interface: the form of what is handed in and given back."""

import unittest

import floorunroll.picture
from floorunroll.picture import answers

from tests.helping import FITS, READY, TILTED
from tests.helping import flat, marked, said

MIXED = flat(marked(TILTED) + [
    READY, ("unroll", 50, 50), ("unroll", 50, 100), ("seen", 1, 1), ("off", 3), ("off", 9), FITS,
    ("unroll", 101, 0), ("mark", 5, 10, 50, 49), FITS, ("unmark", 3), READY,
])

ANSWERED = [
    1, 0, 1, 0, 1, 1, 1, 2, 1, 3,
    1, 1, 5, 0, 5, 1, 10, 1, 1, -6, 5, 0, 150, 11, 100, 11, 5, 0, 0, 1, 0, 1, 1, -2, 1, 1,
    1, -22, 1, 4, 1, 0, 1, 4, 1, 1,
]


class Sealed(list):
    """A list that tells when it's changed, be it for a while."""

    def refuse(self, *args, **kwargs):
        raise AssertionError("what is handed in is changed")

    append = extend = insert = pop = remove = clear = reverse = sort = refuse
    __setitem__ = __delitem__ = __iadd__ = __imul__ = refuse


class TheForm(unittest.TestCase):
    def test_counts_ahead_of_each_answer(self):
        self.assertEqual(answers([0]), [1, 0])
        self.assertEqual(answers([3]), [1, -11])
        self.assertEqual(answers([0, 3]), [1, 0, 1, 0])
        self.assertEqual(answers(MIXED), ANSWERED)

    def test_plain_whole_numbers_in_a_plain_list(self):
        found = answers(MIXED)
        self.assertIs(type(found), list)
        for number in found:
            self.assertIs(type(number), int)

    def test_by_its_full_name(self):
        self.assertEqual(floorunroll.picture.answers(calls=[0]), [1, 0])

    def test_two_hundred_calls(self):
        calls = marked(TILTED) + [("unroll", k % 101, 3 * k % 101) for k in range(195)]
        found = said(calls)
        self.assertEqual(len(found), 200)
        for call, answer in zip(calls[5:], found[5:]):
            u, v = call[1:]
            self.assertEqual(answer, [-6] if v == 100 else said(marked(TILTED) + [call])[-1])

    def test_two_hundred_calls_of_the_longest_kinds(self):
        self.assertEqual(answers([0] + [1, 0, 0, 0, 0] * 199)[:4], [1, 0, 1, 0])
        self.assertEqual(answers([0] + [1, 0, 0, 0, 0] * 199)[-2:], [1, -28])
        self.assertEqual(answers([0] * 200), [1, 0] * 200)


class NothingKept(unittest.TestCase):
    def test_the_list_handed_in_is_as_it_was(self):
        handed = list(MIXED)
        answers(handed)
        self.assertEqual(handed, MIXED)

    def test_it_is_not_changed_for_a_while_either(self):
        self.assertEqual(answers(Sealed(MIXED)), ANSWERED)

    def test_the_same_list_twice(self):
        handed = list(MIXED)
        self.assertEqual(answers(handed), ANSWERED)
        self.assertEqual(answers(handed), ANSWERED)

    def test_what_is_given_back_is_new_each_time(self):
        found = answers(MIXED)
        found.clear()
        self.assertEqual(answers(MIXED), ANSWERED)

    def test_each_list_is_on_a_new_object(self):
        answers(flat(marked(TILTED)))
        self.assertEqual(answers([3]), [1, -11])
        self.assertEqual(answers([0, 3]), [1, 0, 1, 0])
        self.assertEqual(answers([0, 6, 0]), [1, 0, 1, -2])


if __name__ == "__main__":
    unittest.main()
