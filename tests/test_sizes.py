"""expected_size, stop_probability, errors, row and summary, against a plain model of plans."""

import unittest
from fractions import Fraction
from math import comb

from tests.helper import all_plans, ask, ask_behind, changing, fraction_of, fractions_of, last
from tests.helper import many_plans, model_chance, model_expected, model_size, plan_behind
from tests.helper import random_plan, setting

CHANCES = [(0, 1), (0, 1000), (1, 1000), (1, 4), (2, 4), (1, 2), (5, 7), (999, 1000), (1, 1), (3, 3)]
PAIRS = [(1, 2, 3), (1, 3, 4), (2, 3, 4), (499, 501, 1000), (1, 999, 1000)]


def model_stopping(rows, x, wanted):
    return model_expected(rows, x, lambda n, s, decision: n == wanted)


class Models(unittest.TestCase):
    def check(self, rows, calls):
        horizon = len(rows) - 1
        asked = [("row", n) for n in range(horizon + 1)] + [("summary",)]
        expected = [[len(row)] + row for row in rows] + [[horizon]]
        self.assertEqual(ask_behind(calls, asked), expected)
        asked = [("expected_size", p, divisor) for p, divisor in CHANCES]
        asked += [("errors",) + pair for pair in PAIRS]
        found = ask_behind(calls, asked)
        for (p, divisor), answer in zip(CHANCES, found):
            self.assertEqual(fraction_of(answer), model_size(rows, Fraction(p, divisor)), (rows, p))
        for (p0, p1, divisor), answer in zip(PAIRS, found[len(CHANCES):]):
            error0 = model_chance(rows, Fraction(p0, divisor), 2)
            error1 = model_chance(rows, Fraction(p1, divisor), 1)
            self.assertEqual(fractions_of(answer), [error0, error1], (rows, p0, p1))

    def check_stopping(self, rows, calls, chances):
        numbers = [(p, divisor, n) for p, divisor in chances for n in range(len(rows))]
        found = ask_behind(calls, [("stop_probability",) + one for one in numbers])
        for (p, divisor, n), answer in zip(numbers, found):
            expected = model_stopping(rows, Fraction(p, divisor), n)
            self.assertEqual(fraction_of(answer), expected, (rows, p, divisor, n))

    def test_every_plan_of_horizon_1_and_2(self):
        for horizon in (1, 2):
            for rows in all_plans(horizon):
                self.check(rows, setting(rows))
                self.check_stopping(rows, setting(rows), CHANCES)

    def test_plans_of_horizon_3(self):
        for rows in list(all_plans(3))[::49]:
            self.check(rows, setting(rows))
            self.check_stopping(rows, setting(rows), CHANCES[1:4])

    def test_many_plans_up_to_the_greatest_horizon(self):
        for calls in many_plans():
            rows = plan_behind(calls[0][1], *calls)
            self.check(rows, calls)
            self.check_stopping(rows, calls, [(3, 7)])

    def test_random_plans_of_horizon_20(self):
        for seed in range(5):
            rows = random_plan(20, seed, 20)
            rows[0][0] = 0
            self.check(rows, changing(rows))
            self.check_stopping(rows, changing(rows), [(0, 1), (1, 1), (499, 1000)])


class ExpectedSize(unittest.TestCase):
    def test_plan_that_stops_at_once(self):
        for decision in (1, 2):
            calls = [("create", 20), ("set_decision", 0, 0, decision)]
            for p, divisor in CHANCES:
                self.assertEqual(last(*calls, ("expected_size", p, divisor)), [0, 0, 1])

    def test_plan_without_early_stops(self):
        for horizon in (1, 7, 20):
            for p, divisor in CHANCES:
                found = last(("create", horizon), ("expected_size", p, divisor))
                self.assertEqual(found, [0, horizon, 1])

    def test_sure_outcomes(self):
        calls = [("create", 4), ("set_decision", 2, 0, 1), ("set_decision", 3, 3, 2)]
        self.assertEqual(last(*calls, ("expected_size", 0, 5)), [0, 2, 1])
        self.assertEqual(last(*calls, ("expected_size", 5, 5)), [0, 3, 1])

    def test_numbers_longer_than_64_bits(self):
        calls = [("create", 20), ("set_decision", 19, 19, 2), ("expected_size", 999, 1000)]
        self.assertEqual(last(*calls), [0, 20 * 1000 ** 19 - 999 ** 19, 1000 ** 19])


class StopProbability(unittest.TestCase):
    def test_nothing_stops(self):
        calls = [("create", 3), ("set_decision", 1, 0, 1), ("set_decision", 2, 0, 1)]
        found = ask(*calls, *[("stop_probability", 1, 3, n) for n in range(4)])[3:]
        # (2, 0) lies behind a stop, so nothing stops after 2 observations.
        self.assertEqual(found, [[0, 0, 1], [0, 2, 3], [0, 0, 1], [0, 1, 3]])

    def test_nothing_stops_for_this_probability(self):
        calls = [("create", 2), ("set_decision", 1, 0, 1)]
        found = ask(*calls, *[("stop_probability", p, 3, n) for p in (0, 3) for n in range(3)])[2:]
        self.assertEqual(found, [[0, 0, 1], [0, 1, 1], [0, 0, 1], [0, 0, 1], [0, 0, 1], [0, 1, 1]])

    def test_at_once(self):
        calls = [("create", 20), ("set_decision", 0, 0, 2)]
        for p, divisor in CHANCES:
            found = ask(*calls, *[("stop_probability", p, divisor, n) for n in (0, 1, 20)])[2:]
            self.assertEqual(found, [[0, 1, 1], [0, 0, 1], [0, 0, 1]])

    def test_several_stops_after_as_many_observations(self):
        calls = [("create", 3), ("set_decision", 2, 0, 1), ("set_decision", 2, 2, 2)]
        self.assertEqual(last(*calls, ("stop_probability", 1, 3, 2)), [0, 5, 9])
        self.assertEqual(last(*calls, ("stop_probability", 1, 3, 3)), [0, 4, 9])


class Errors(unittest.TestCase):
    def test_plans_that_always_decide_alike(self):
        for pair in PAIRS:
            calls = [("create", 5), ("errors",) + pair]
            self.assertEqual(last(*calls), [0, 0, 1, 1, 1])
            calls = [("create", 5), ("set_decision", 0, 0, 2), ("errors",) + pair]
            self.assertEqual(last(*calls), [0, 1, 1, 0, 1])

    def test_each_error_has_its_own_probability(self):
        calls = [("create", 2), ("single", 0), ("errors", 1, 3, 4)]
        self.assertEqual(last(*calls), [0, 7, 16, 1, 16])
        calls = [("create", 2), ("single", 1), ("errors", 1, 3, 4)]
        self.assertEqual(last(*calls), [0, 1, 16, 7, 16])

    def test_single_plans_at_horizon_20(self):
        for limit in (0, 9, 19, 20):
            for p0, p1, divisor in PAIRS:
                x0, x1 = Fraction(p0, divisor), Fraction(p1, divisor)
                accepted = [
                    sum(comb(20, s) * x ** s * (1 - x) ** (20 - s) for s in range(limit + 1))
                    for x in (x0, x1)
                ]
                found = last(("create", 20), ("single", limit), ("errors", p0, p1, divisor))
                self.assertEqual(fractions_of(found), [1 - accepted[0], accepted[1]])


class Row(unittest.TestCase):
    def test_decisions_by_the_number_of_successes(self):
        calls = [("create", 3), ("set_decision", 2, 0, 1), ("set_decision", 2, 2, 2)]
        calls += [("set_decision", 3, 3, 2)]
        found = ask(*calls, *[("row", n) for n in range(4)])[4:]
        self.assertEqual(found, [[1, 0], [2, 0, 0], [3, 1, 0, 2], [4, 1, 1, 1, 2]])

    def test_points_without_a_path_have_their_decision(self):
        calls = [("create", 2), ("set_decision", 0, 0, 1), ("set_decision", 1, 1, 2), ("row", 1)]
        self.assertEqual(last(*calls), [2, 0, 2])


class Summary(unittest.TestCase):
    def test_horizon(self):
        for horizon in range(1, 21):
            found = ask(("create", horizon), ("summary",), ("create", 21 - horizon), ("summary",))
            self.assertEqual(found, [[0], [horizon], [0], [21 - horizon]])

    def test_create_that_fails_keeps_the_horizon(self):
        found = ask(("create", 7), ("create", 21), ("summary",), ("create", 0), ("summary",))
        self.assertEqual(found, [[0], [-22], [7], [-22], [7]])


if __name__ == "__main__":
    unittest.main()
