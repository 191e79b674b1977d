"""The document's requirements 1 to 7, over many plans, from the program's own answers."""

import unittest
from fractions import Fraction

from tests.helper import all_plans, ask, ask_behind, fraction_of, fractions_of, last, many_plans
from tests.helper import paths_behind, plan_behind, points, setting
from tests.test_best_two_stage import PAIRS
from tests.test_optimal import PROBLEMS

CHANCES = [(0, 1), (1, 1000), (1, 3), (1, 2), (6, 7), (999, 1000), (1, 1)]


def small_and_many_plans():
    small = [setting(rows) for rows in all_plans(1)]
    small += [setting(rows) for rows in list(all_plans(2))[::5]]
    small += [setting(rows) for rows in list(all_plans(3))[::211]]
    return small + many_plans()


def stops_behind(calls):
    """The stops as the program tells them: (n, s, decision, paths)."""
    horizon = calls[0][1]
    rows = plan_behind(horizon, *calls)
    counts = paths_behind(horizon, *calls)
    found = []
    for n, s in points(horizon):
        if rows[n][s] and counts[n][s]:
            found.append((n, s, rows[n][s], counts[n][s]))
    return found


def probability(stop, x):
    n, s, decision, count = stop
    return count * x ** s * (1 - x) ** (n - s)


class Stops(unittest.TestCase):
    def test_1_probabilities_add_up_to_1(self):
        for calls in small_and_many_plans():
            stops = stops_behind(calls)
            horizon = calls[0][1]
            self.assertEqual(last(*calls, ("stop_count",))[0], len(stops))
            for p, divisor in CHANCES:
                x = Fraction(p, divisor)
                self.assertEqual(sum(probability(stop, x) for stop in stops), 1, calls)
                asked = [("stop_probability", p, divisor, n) for n in range(horizon + 1)]
                told = [fraction_of(answer) for answer in ask_behind(calls, asked)]
                self.assertEqual(sum(told), 1, calls)
                for n in range(horizon + 1):
                    self.assertEqual(told[n], sum(probability(stop, x) for stop in stops if stop[0] == n))

    def test_2_estimate_is_unbiased(self):
        checked = 0
        for calls in small_and_many_plans():
            stops = stops_behind(calls)
            if stops[0][0] == 0:
                continue
            asked = [("unbiased", stop[0], stop[1]) for stop in stops]
            estimates = [fraction_of(answer) for answer in ask_behind(calls, asked)]
            for p, divisor in CHANCES:
                x = Fraction(p, divisor)
                weighted = [probability(stop, x) * one for stop, one in zip(stops, estimates)]
                self.assertEqual(sum(weighted), x, calls)
            checked += 1
        self.assertGreater(checked, 100)

    def test_3_expected_number_of_successes(self):
        for calls in small_and_many_plans():
            stops = stops_behind(calls)
            asked = [("expected_size", p, divisor) for p, divisor in CHANCES]
            for (p, divisor), answer in zip(CHANCES, ask_behind(calls, asked)):
                x = Fraction(p, divisor)
                successes = sum(stop[1] * probability(stop, x) for stop in stops)
                self.assertEqual(successes, x * fraction_of(answer), calls)


class Curtailing(unittest.TestCase):
    def test_4_same_acceptance_and_no_greater_size(self):
        smaller = 0
        for calls in small_and_many_plans():
            reads = [("acceptance",) + chance for chance in CHANCES]
            reads += [("expected_size",) + chance for chance in CHANCES]
            before = ask(*calls, *reads)[len(calls):]
            after = ask(*calls, ("curtail",), *reads)[len(calls) + 1:]
            self.assertEqual(after[:len(CHANCES)], before[:len(CHANCES)], calls)
            for old, new in zip(before[len(CHANCES):], after[len(CHANCES):]):
                self.assertLessEqual(fraction_of(new), fraction_of(old), calls)
                smaller += fraction_of(new) < fraction_of(old)
        self.assertGreater(smaller, 100)


class Optimal(unittest.TestCase):
    def costs(self, calls, problems):
        asked = [("plan_cost",) + problem for problem in problems]
        return [fraction_of(answer) for answer in ask_behind(calls, asked)]

    def least(self, horizon, problems):
        asked = [("least_cost",) + problem for problem in problems]
        return [fraction_of(answer) for answer in ask_behind([("create", horizon)], asked)]

    def test_5_optimal_plan_costs_the_least_cost(self):
        for horizon in (1, 2, 3, 6, 20):
            for problem, least in zip(PROBLEMS, self.least(horizon, PROBLEMS)):
                calls = [("create", horizon), ("optimal",) + problem]
                self.assertEqual(self.costs(calls, [problem]), [least], problem)

    def test_5_no_plan_costs_less(self):
        least = {horizon: self.least(horizon, PROBLEMS) for horizon in (1, 2, 3, 6, 20)}
        plans = [setting(rows) for horizon in (1, 2) for rows in all_plans(horizon)]
        for calls in plans + small_and_many_plans():
            for cost, bound in zip(self.costs(calls, PROBLEMS), least[calls[0][1]]):
                self.assertGreaterEqual(cost, bound, calls)

    def test_5_no_neighbour_of_the_optimal_plan_costs_less(self):
        problem = PROBLEMS[1]
        least = self.least(20, [problem])[0]
        calls = [("create", 20), ("optimal",) + problem]
        rows = plan_behind(20, *calls)
        greater = 0
        for n, s in points(20):
            for decision in (1, 2) if n == 20 else (0, 1, 2):
                if decision != rows[n][s]:
                    changed = calls + [("set_decision", n, s, decision)]
                    cost = self.costs(changed, [problem])[0]
                    self.assertGreaterEqual(cost, least)
                    greater += cost > least
        self.assertGreater(greater, 10)


class TwoStages(unittest.TestCase):
    def considered(self, pair, most):
        """Each plan up to most with its errors and its size, as the program's other calls tell."""
        p0, p1, divisor = pair
        found = []
        for n in range(2, most + 1):
            for n1 in range(1, n):
                for r1 in range(n1):
                    for r in range(r1, n):
                        answers = ask(
                            ("create", n), ("two_stage", n1, r1, r), ("errors",) + pair,
                            ("expected_size", p0, divisor),
                        )
                        error0, error1 = fractions_of(answers[2])
                        found.append(((n1, r1, n, r), error0, error1, fraction_of(answers[3])))
        return found

    def check(self, found, pair, bounds, most):
        best = last(("create", 1), ("best_two_stage",) + pair + bounds + (most,))
        alpha, beta = Fraction(*bounds[:2]), Fraction(*bounds[2:])
        kept = [(one[0], one[3]) for one in found if one[1] <= alpha and one[2] <= beta]
        if best == [-33]:
            self.assertEqual(kept, [])
            return 0
        size = Fraction(*best[4:])
        self.assertIn((tuple(best[:4]), size), kept)
        for other, other_size in kept:
            self.assertGreaterEqual(other_size, size, (pair, bounds, most, other))
        self.assertEqual([other for other, other_size in kept if other_size == size][0], tuple(best[:4]))
        return 1

    def test_6_keeps_both_bounds_and_none_is_smaller(self):
        checked = 0
        for pair in PAIRS:
            for most in (2, 5, 8):
                found = self.considered(pair, most)
                for alpha in ((1, 50), (1, 10), (1, 4), (2, 3), (1, 1)):
                    for beta in ((1, 50), (1, 10), (1, 4), (2, 3), (1, 1)):
                        checked += self.check(found, pair, alpha + beta, most)
        self.assertGreater(checked, 100)


class Trials(unittest.TestCase):
    def test_7_one_more_trial(self):
        for weights in [
            (1, 1, 1, 1), (1, 2, 3, 4), (100, 1, 1, 100), (1, 100, 1, 100), (100, 1, 100, 1),
            (100, 100, 100, 100), (7, 3, 50, 20), (1, 1, 51, 49),
        ]:
            asked = [("successes", trials) + weights for trials in range(8)]
            values = [fractions_of(answer)[0] for answer in ask_behind([("create", 1)], asked)]
            for before, after in zip(values, values[1:]):
                self.assertGreaterEqual(after - before, 0)
                self.assertLessEqual(after - before, 1)


if __name__ == "__main__":
    unittest.main()
