"""Many mixed lists of calls, against a model that works by equations."""

import unittest

from tests.helping import BOTH_SIDES, FITS, HORIZON, LEAST, LOW, MOST, POINT_NUMBERS, READY, START, STATE, TILTED
from tests.helping import TURNED
from tests.helping import Steps, asked, marked, said
from tests.modelling import modelled

ODD = (-1, 101, LEAST, MOST)
ASKING = [name for name in POINT_NUMBERS if name != "mark"]


def number(steps, limit):
    """Mostly one from 0 to the limit, now and then one that's out of range."""
    if steps.below(60) == 0:
        return ODD[steps.below(4)]
    return steps.below(limit + 1)


def with_points(name, steps, limit):
    """A call with points, now and then with two that are the same."""
    numbers = [number(steps, limit) for each in range(POINT_NUMBERS[name])]
    if len(numbers) > 2 and steps.below(8) == 0:
        numbers[2:4] = numbers[:2]
    return (name, *numbers)


def one_call(steps, limit):
    chosen = steps.below(80)
    if chosen == 0:
        return START
    if chosen < 14:
        return with_points("mark", steps, limit)
    if chosen < 18:
        return ("unmark", steps.below(9))
    if chosen < 30:
        return (READY, FITS, HORIZON, STATE)[chosen % 4]
    if chosen < 35:
        return ("off", steps.below(9))
    return with_points(ASKING[steps.below(len(ASKING))], steps, limit)


def mixed_calls(seed):
    """Calls of all kinds, where it's seldom ready."""
    steps = Steps(seed)
    # Few numbers make lines, horizons and marks that fit more often.
    limit = (2, 4, 10, 100)[seed % 4]
    return [one_call(steps, limit) for each in range(120)]


def mixed_marks(seed):
    """Six marks, and calls that change nothing behind them."""
    steps = Steps(1000 + seed)
    limit = (3, 6, 20, 100)[seed % 4]
    marks = [tuple(steps.below(limit + 1) for each in range(4)) for each in range(6)]
    calls = marked(marks) + [READY, FITS, HORIZON, STATE] + [("off", k) for k in range(6)]
    for name in ASKING:
        calls += [with_points(name, steps, limit) for each in range(12)]
    return calls


class AgainstTheModel(unittest.TestCase):
    def check(self, calls):
        for call, found, asked_for in zip(calls, said(calls), modelled(calls)):
            self.assertEqual(found, asked_for, (call, calls))

    def test_mixed_calls(self):
        for seed in range(60):
            self.check(mixed_calls(seed))

    def test_mixed_marks(self):
        for seed in range(200):
            self.check(mixed_marks(seed))

    def test_whole_rows(self):
        for marks in (TILTED, TURNED, LOW, BOTH_SIDES):
            for name in ("unroll", "seen", "side"):
                calls = [(name, k, j) for k in (0, 41, 100) for j in range(101)]
                self.assertEqual(asked(marks, calls), modelled(marked(marks) + calls)[5:])

    def test_every_refusal_is_among_them(self):
        found = {}
        for calls in [mixed_calls(seed) for seed in range(60)] + [mixed_marks(seed) for seed in range(200)]:
            for call, answer in zip(calls, modelled(calls)):
                found.setdefault(call[0], {}).setdefault(answer[0], call)
        measured = {-11, -22, -16, -6, -33, 0}
        for name, firsts in {
            "mark": {-11, -22, -28, 0, 7}, "unmark": {-11, -2, 0, 7}, "ready": {-11, 0, 1},
            "unroll": {-11, -22, -16, -6, 0}, "seen": {-11, -22, -16, -6, 0}, "off": {-11, -2, -16, -6, 0},
            "fits": {-11, -16, 0, 1}, "horizon": {-11, -16, -33, 0}, "side": {-11, -22, -16, 0, 1, 2},
            "middle": measured, "apart": measured - {-33}, "part": measured,
            "line": {-11, -22, -17, -16, 0}, "straight": {-11, -22, 0, 1}, "state": {-11, 0, 8},
        }.items():
            self.assertLessEqual(firsts, set(found[name]), name)


if __name__ == "__main__":
    unittest.main()
