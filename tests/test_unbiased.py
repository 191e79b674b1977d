"""unbiased: the estimate at a stop, by counting the paths one by one."""

import unittest
from fractions import Fraction
from functools import lru_cache
from itertools import product
from math import comb

from tests.helper import all_plans, ask, ask_behind, changing, fraction_of, last, many_plans
from tests.helper import plan_behind, points, random_plan, setting


def counted(rows):
    """By point the paths that begin with a success, and all paths: every sequence is tried."""
    found = {}
    for n in range(len(rows)):
        for outcomes in product((0, 1), repeat=n):
            if not any(rows[k][sum(outcomes[:k])] for k in range(n)):
                ahead, total = found.get((n, sum(outcomes)), (0, 0))
                found[n, sum(outcomes)] = (ahead + sum(outcomes[:1]), total + 1)
    return found


def traced(rows):
    """The same for greater horizons, followed back from each point."""
    @lru_cache(maxsize=None)
    def back(n, s):
        if n == 0:
            return (0, 1)
        ahead, total = 0, 0
        for outcome in (0, 1):
            if 0 <= s - outcome <= n - 1 and rows[n - 1][s - outcome] == 0:
                before = back(n - 1, s - outcome)
                ahead += before[0] if n > 1 else outcome
                total += before[1]
        return (ahead, total)

    return {(n, s): back(n, s) for n, s in points(len(rows) - 1)}


def model_unbiased(rows, counts):
    expected = []
    for n, s in points(len(rows) - 1):
        ahead, total = counts.get((n, s), (0, 0))
        if n == 0 or rows[n][s] == 0 or total == 0:
            expected.append(None)
        else:
            expected.append(Fraction(ahead, total))
    return expected


class Models(unittest.TestCase):
    def check(self, rows, calls, counts):
        found = ask_behind(calls, [("unbiased", n, s) for n, s in points(len(rows) - 1)])
        told = [None if answer == [-33] else fraction_of(answer) for answer in found]
        self.assertEqual(told, model_unbiased(rows, counts), rows)

    def test_every_plan_of_horizon_1_and_2(self):
        for horizon in (1, 2):
            for rows in all_plans(horizon):
                self.check(rows, setting(rows), counted(rows))

    def test_plans_of_horizon_3(self):
        for rows in list(all_plans(3))[::23]:
            self.check(rows, setting(rows), counted(rows))

    def test_many_plans_up_to_the_greatest_horizon(self):
        for calls in many_plans():
            rows = plan_behind(calls[0][1], *calls)
            if calls[0][1] <= 6:
                self.check(rows, calls, counted(rows))
            self.check(rows, calls, traced(rows))

    def test_random_plans_of_horizon_20(self):
        for seed in range(5):
            rows = random_plan(20, seed, 20)
            rows[0][0] = 0
            self.check(rows, changing(rows), traced(rows))


class Unbiased(unittest.TestCase):
    def test_without_early_stops_it_is_the_share_of_successes(self):
        for horizon in (1, 5, 20):
            found = ask(("create", horizon), *[("unbiased", horizon, s) for s in range(horizon + 1)])
            expected = [Fraction(s, horizon) for s in range(horizon + 1)]
            self.assertEqual([fraction_of(answer) for answer in found[1:]], expected)

    def test_two_stages(self):
        # (2, 0) and (2, 1) stop: whatever goes on began with two successes.
        calls = [("create", 5), ("two_stage", 2, 1, 3)]
        found = ask(*calls, *[("unbiased", 5, s) for s in range(2, 6)])[2:]
        self.assertEqual(found, [[0, 1, 1]] * 4)
        # Only (2, 0) stops: two failures at the beginning are missing.
        calls = [("create", 5), ("two_stage", 2, 0, 3)]
        found = ask(*calls, *[("unbiased", 5, s) for s in range(1, 6)])[2:]
        expected = []
        for s in range(1, 6):
            total = comb(5, s) - comb(3, s)
            expected.append(Fraction(comb(4, s - 1), total))
        self.assertEqual([fraction_of(answer) for answer in found], expected)

    def test_point_without_paths(self):
        calls = [("create", 3), ("set_decision", 1, 0, 2), ("set_decision", 2, 0, 1)]
        self.assertEqual(last(*calls, ("unbiased", 2, 0)), [-33])
        self.assertEqual(last(*calls, ("unbiased", 3, 0)), [-33])

    def test_point_at_which_the_plan_goes_on(self):
        for n, s in points(3)[:6]:
            self.assertEqual(last(("create", 3), ("unbiased", n, s)), [-33])

    def test_beginning_if_the_plan_stops_there(self):
        for decision in (1, 2):
            calls = [("create", 3), ("set_decision", 0, 0, decision)]
            found = ask(*calls, *[("unbiased", n, s) for n, s in points(3)])[2:]
            self.assertEqual(found, [[-33]] * 10)

    def test_both_decisions_are_stops(self):
        for decision in (1, 2):
            calls = [("create", 2), ("set_decision", 1, 1, decision)]
            self.assertEqual(last(*calls, ("unbiased", 1, 1)), [0, 1, 1])
            calls = [("create", 2), ("set_decision", 1, 0, decision)]
            self.assertEqual(last(*calls, ("unbiased", 1, 0)), [0, 0, 1])


if __name__ == "__main__":
    unittest.main()
