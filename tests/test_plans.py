"""single, likelihood and two_stage: the plans that they make, and how many stops these have."""

import unittest
from fractions import Fraction

from tests.helper import ask, last, model_paths, plan_behind


def stops_of(rows):
    counts = model_paths(rows)
    found = 0
    for row, paths in zip(rows, counts):
        found += len([1 for decision, count in zip(row, paths) if decision and count])
    return found


class Single(unittest.TestCase):
    def test_plan_for_each_limit(self):
        for horizon in range(1, 9):
            for limit in range(horizon + 1):
                rows = plan_behind(horizon, ("create", horizon), ("single", limit))
                before = [[0] * (n + 1) for n in range(horizon)]
                end = [1] * (limit + 1) + [2] * (horizon - limit)
                self.assertEqual(rows, before + [end])

    def test_stops_are_the_horizon(self):
        for horizon in range(1, 21):
            for limit in range(horizon + 1):
                found = ask(("create", horizon), ("single", limit), ("stop_count",))
                stops = horizon + 1
                self.assertEqual(found[1:], [[stops], [stops, limit + 1, horizon - limit]])


class TwoStage(unittest.TestCase):
    def expected(self, horizon, first, first_limit, limit):
        rows = [[0] * (n + 1) for n in range(horizon + 1)]
        for s in range(first_limit + 1):
            rows[first][s] = 1
        for s in range(horizon + 1):
            rows[horizon][s] = 2 if s > limit else 1
        return rows

    def test_every_plan_up_to_horizon_5(self):
        for horizon in range(2, 6):
            for first in range(1, horizon):
                for first_limit in range(first + 1):
                    for limit in range(horizon + 1):
                        calls = [("create", horizon), ("two_stage", first, first_limit, limit)]
                        expected = self.expected(horizon, first, first_limit, limit)
                        self.assertEqual(plan_behind(horizon, *calls), expected)
                        self.assertEqual(last(*calls), [stops_of(expected)])

    def test_first_stage_that_always_accepts(self):
        found = ask(("create", 4), ("two_stage", 2, 2, 0), ("stop_count",), ("paths", 3, 1))
        self.assertEqual(found, [[0], [3], [3, 3, 0], [0]])

    def test_limit_below_the_first_limit(self):
        found = ask(("create", 3), ("two_stage", 2, 1, 0), ("stop_count",))
        self.assertEqual(found, [[0], [4], [4, 2, 2]])


class Likelihood(unittest.TestCase):
    def expected(self, horizon, p0, p1, divisor, low, low_divisor, high, high_divisor):
        rows = []
        for n in range(horizon + 1):
            row = []
            for s in range(n + 1):
                ratio = Fraction(p1, p0) ** s
                ratio *= Fraction(divisor - p1, divisor - p0) ** (n - s)
                if n == 0:
                    row.append(0)
                elif ratio >= Fraction(high, high_divisor):
                    row.append(2)
                elif ratio <= Fraction(low, low_divisor):
                    row.append(1)
                else:
                    row.append(1 if n == horizon else 0)
            rows.append(row)
        return rows

    def check(self, horizon, *numbers):
        calls = [("create", horizon), ("likelihood",) + numbers]
        expected = self.expected(horizon, *numbers)
        self.assertEqual(plan_behind(horizon, *calls), expected, numbers)
        self.assertEqual(last(*calls), [stops_of(expected)], numbers)

    def test_many_bounds(self):
        pairs = [(1, 2, 4), (1, 3, 4), (1, 2, 3), (3, 7, 10), (1, 999, 1000), (499, 500, 1000)]
        bounds = [
            (0, 1, 1, 1000), (1, 2, 4, 1), (1, 19, 19, 1), (1, 1, 2, 1), (1, 2, 1, 1), (2, 3, 4, 3),
            (0, 1, 1000000, 1), (4, 9, 8, 3), (999, 1000, 1001, 1000), (3, 1, 9, 1), (1, 9, 1, 3),
        ]
        for horizon in (1, 2, 5, 7):
            for pair in pairs:
                for bound in bounds:
                    self.check(horizon, *pair, *bound)

    def test_ratio_equal_to_the_high_bound_rejects(self):
        # The ratio is 2 behind a success and 2/3 behind a failure.
        self.assertEqual(plan_behind(1, ("create", 1), ("likelihood", 1, 2, 4, 0, 1, 2, 1)), [[0], [1, 2]])
        calls = [("create", 2), ("likelihood", 1, 2, 4, 0, 1, 2, 1)]
        self.assertEqual(plan_behind(2, *calls), [[0], [0, 2], [1, 1, 2]])
        calls = [("create", 2), ("likelihood", 1, 2, 4, 0, 1, 2001, 1000)]
        self.assertEqual(plan_behind(2, *calls), [[0], [0, 0], [1, 1, 2]])
        calls = [("create", 2), ("likelihood", 1, 2, 4, 0, 1, 1999, 1000)]
        self.assertEqual(plan_behind(2, *calls), [[0], [0, 2], [1, 1, 2]])

    def test_ratio_equal_to_the_low_bound_accepts(self):
        calls = [("create", 2), ("likelihood", 1, 2, 4, 2, 3, 100, 1)]
        self.assertEqual(plan_behind(2, *calls), [[0], [1, 0], [1, 1, 1]])
        calls = [("create", 2), ("likelihood", 1, 2, 4, 666, 1000, 100, 1)]
        self.assertEqual(plan_behind(2, *calls), [[0], [0, 0], [1, 1, 1]])
        calls = [("create", 2), ("likelihood", 1, 2, 4, 667, 1000, 100, 1)]
        self.assertEqual(plan_behind(2, *calls), [[0], [1, 0], [1, 1, 1]])

    def test_beginning_goes_on_though_its_ratio_is_1(self):
        # At (0, 0) the ratio 1 is at least the high bound, or at most the low one.
        calls = [("create", 2), ("likelihood", 1, 2, 4, 0, 1, 1, 1)]
        self.assertEqual(plan_behind(2, *calls)[0], [0])
        calls = [("create", 2), ("likelihood", 1, 2, 4, 1, 1, 2, 1)]
        self.assertEqual(plan_behind(2, *calls)[0], [0])

    def test_between_the_bounds_at_the_horizon_it_accepts(self):
        calls = [("create", 2), ("likelihood", 1, 2, 4, 1, 100, 100, 1)]
        self.assertEqual(plan_behind(2, *calls), [[0], [0, 0], [1, 1, 1]])

    def test_low_bound_0_is_reached_nowhere(self):
        calls = [("create", 3), ("likelihood", 1, 999, 1000, 0, 1, 1000000, 1)]
        self.assertEqual(plan_behind(3, *calls), [[0], [0, 0], [0, 0, 0], [1, 1, 1, 2]])

    def test_horizon_20(self):
        # Here a point with d more successes than failures has the ratio 2 ** d.
        calls = [("create", 20), ("likelihood", 1, 2, 3, 1, 1000, 512, 1)]
        rows = plan_behind(20, *calls)
        for n in range(1, 21):
            for s in range(n + 1):
                ahead = 2 * s - n
                expected = 2 if ahead >= 9 else 1 if ahead <= -10 or n == 20 else 0
                self.assertEqual(rows[n][s], expected, (n, s))


if __name__ == "__main__":
    unittest.main()
