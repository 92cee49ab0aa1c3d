"""Many mixed lists of calls, against a model that works by equations."""

import unittest

from tests.helping import FITS, LEAST, MOST, READY, START, TILTED, TURNED
from tests.helping import Steps, asked, marked, modelled, said

ODD = (-1, 101, LEAST, MOST)


def number(steps, limit):
    """Mostly one from 0 to the limit, now and then one that's out of range."""
    if steps.below(40) == 0:
        return ODD[steps.below(4)]
    return steps.below(limit + 1)


def one_call(steps, limit):
    chosen = steps.below(60)
    if chosen == 0:
        return START
    if chosen < 14:
        return ("mark",) + tuple(number(steps, limit) for each in range(4))
    if chosen < 20:
        return ("unmark", steps.below(9))
    if chosen < 25:
        return READY
    if chosen < 30:
        return FITS
    if chosen < 40:
        return ("off", steps.below(9))
    return ("unroll" if chosen < 50 else "seen", number(steps, limit), number(steps, limit))


class AgainstTheModel(unittest.TestCase):
    def check(self, calls):
        for call, found, asked_for in zip(calls, said(calls), modelled(calls)):
            self.assertEqual(found, asked_for, (call, calls))

    def test_mixed_calls(self):
        for seed in range(60):
            steps = Steps(seed)
            # Few numbers make lines, horizons and marks that fit more often.
            limit = (2, 4, 10, 100)[seed % 4]
            self.check([one_call(steps, limit) for each in range(120)])

    def test_mixed_marks(self):
        for seed in range(150):
            steps = Steps(1000 + seed)
            limit = (3, 6, 20, 100)[seed % 4]
            marks = [tuple(steps.below(limit + 1) for each in range(4)) for each in range(6)]
            calls = marked(marks) + [READY, FITS] + [("off", k) for k in range(6)]
            for name in ("unroll", "seen"):
                calls += [(name, steps.below(limit + 1), steps.below(limit + 1)) for each in range(12)]
            self.check(calls)

    def test_whole_rows(self):
        for marks in (TILTED, TURNED):
            for name in ("unroll", "seen"):
                calls = [(name, k, j) for k in (0, 41, 100) for j in range(101)]
                self.assertEqual(asked(marks, calls), modelled(marked(marks) + calls)[5:])

    def test_every_refusal_is_among_them(self):
        found = []
        for seed in range(60):
            steps = Steps(seed)
            limit = (2, 4, 10, 100)[seed % 4]
            found += modelled([one_call(steps, limit) for each in range(120)])
        for answer in ([-2], [-6], [-11], [-16], [-22], [-28]):
            self.assertIn(answer, found)


if __name__ == "__main__":
    unittest.main()
