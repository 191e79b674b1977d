"""optimal: the plan with the least expected cost, and its choice between equal costs."""

import unittest
from fractions import Fraction

from tests.helper import all_plans, ask, last, model_cost, model_paths, plan_behind


def model_optimal(horizon, problem):
    """The optimal plan and its cost at (0, 0), by the words of the document."""
    p0, p1, divisor, prior, prior_divisor, cost, loss0, loss1 = problem
    x0, x1 = Fraction(p0, divisor), Fraction(p1, divisor)
    chance1 = Fraction(prior, prior_divisor)
    rows = [[None] * (n + 1) for n in range(horizon + 1)]
    costs = {}
    for n in reversed(range(horizon + 1)):
        for s in range(n + 1):
            w0 = (1 - chance1) * x0 ** s * (1 - x0) ** (n - s)
            w1 = chance1 * x1 ** s * (1 - x1) ** (n - s)
            choices = [(loss1 * w1, 1), (loss0 * w0, 2)]
            if n < horizon:
                choices.append((cost * (w0 + w1) + costs[n + 1, s] + costs[n + 1, s + 1], 3))
            costs[n, s], decision = min(choices)
            rows[n][s] = decision % 3
    return rows, costs[0, 0]


PROBLEMS = [
    (1, 3, 4, 1, 2, 1, 10, 10),
    (1, 3, 4, 1, 2, 1, 100, 100),
    (1, 3, 4, 1, 2, 1, 100, 30),
    (1, 3, 4, 1, 2, 1, 30, 100),
    (1, 2, 3, 1, 3, 2, 60, 40),
    (1, 2, 3, 2, 3, 2, 40, 60),
    (1, 2, 3, 1, 2, 0, 7, 7),
    (1, 2, 1000, 3, 10, 1, 100000, 100000),
    (499, 501, 1000, 1, 2, 1, 100000, 100000),
    (1, 999, 1000, 1, 1000, 1000, 100000, 100000),
    (2, 5, 7, 999, 1000, 3, 100000, 1),
    (3, 7, 10, 1, 2, 0, 1, 100000),
    (3, 7, 10, 1, 2, 0, 100000, 1),
    (3, 7, 10, 0, 5, 1, 50, 50),
    (3, 7, 10, 5, 5, 1, 50, 50),
    (3, 7, 10, 2, 5, 1, 0, 50),
    (3, 7, 10, 2, 5, 1, 50, 0),
    (3, 7, 10, 2, 5, 0, 0, 0),
    (3, 7, 10, 2, 5, 1000, 50, 50),
]


class Plans(unittest.TestCase):
    def test_plan_by_the_words_of_the_document(self):
        for horizon in (1, 2, 3, 6, 9):
            for problem in PROBLEMS:
                calls = [("create", horizon), ("optimal",) + problem]
                expected, least = model_optimal(horizon, problem)
                self.assertEqual(plan_behind(horizon, *calls), expected, problem)
                stops = []
                for row, counts in zip(expected, model_paths(expected)):
                    stops += [d for d, count in zip(row, counts) if d and count]
                counted = [len(stops), stops.count(1), stops.count(2)]
                self.assertEqual(ask(*calls, ("stop_count",))[1:], [counted[:1], counted])

    def test_horizon_20(self):
        for problem in PROBLEMS:
            calls = [("create", 20), ("optimal",) + problem]
            self.assertEqual(plan_behind(20, *calls), model_optimal(20, problem)[0], problem)

    def test_no_plan_is_cheaper(self):
        for horizon in (1, 2):
            plans = list(all_plans(horizon))
            for problem in PROBLEMS:
                rows = plan_behind(horizon, ("create", horizon), ("optimal",) + problem)
                cheapest = min(model_cost(other, problem) for other in plans)
                self.assertEqual(model_cost(rows, problem), cheapest, problem)
                self.assertEqual(model_optimal(horizon, problem)[1], cheapest, problem)

    def test_plan_before_does_not_matter(self):
        problem = ("optimal",) + PROBLEMS[1]
        for call in (("single", 0), ("two_stage", 1, 1, 0), ("set_decision", 0, 0, 2)):
            self.assertEqual(
                plan_behind(4, ("create", 4), call, problem), plan_behind(4, ("create", 4), problem),
            )


class EqualCosts(unittest.TestCase):
    def plan(self, horizon, *problem):
        return plan_behind(horizon, ("create", horizon), ("optimal",) + problem)

    def constant(self, horizon, decision):
        return [[decision] * (n + 1) for n in range(horizon + 1)]

    def test_no_losses_accept_everywhere(self):
        for cost in (0, 1, 1000):
            self.assertEqual(self.plan(3, 1, 3, 4, 1, 2, cost, 0, 0), self.constant(3, 1))

    def test_no_loss_for_rejecting(self):
        for cost in (0, 1):
            self.assertEqual(self.plan(3, 1, 3, 4, 1, 2, cost, 0, 10), self.constant(3, 2))

    def test_no_loss_for_accepting(self):
        for cost in (0, 1):
            self.assertEqual(self.plan(3, 1, 3, 4, 1, 2, cost, 10, 0), self.constant(3, 1))

    def test_prior_0_accepts_everywhere(self):
        for cost in (0, 1):
            for loss0 in (0, 10):
                self.assertEqual(self.plan(3, 1, 3, 4, 0, 1, cost, loss0, 10), self.constant(3, 1))

    def test_prior_1_rejects_everywhere_but_where_accepting_is_free(self):
        for cost in (0, 1):
            self.assertEqual(self.plan(3, 1, 3, 4, 7, 7, cost, 10, 10), self.constant(3, 2))
            self.assertEqual(self.plan(3, 1, 3, 4, 7, 7, cost, 0, 10), self.constant(3, 2))
            self.assertEqual(self.plan(3, 1, 3, 4, 7, 7, cost, 10, 0), self.constant(3, 1))

    def test_accepting_before_rejecting(self):
        # Where as many successes as failures came, both cost the same.
        self.assertEqual(self.plan(2, 1, 3, 4, 1, 2, 1000, 10, 10), [[1], [1, 2], [1, 1, 2]])

    def test_accepting_before_going_on(self):
        # Going on costs 1 + 4 / 4, accepting and rejecting cost 4 / 2.
        self.assertEqual(self.plan(1, 1, 3, 4, 1, 2, 1, 4, 4), [[1], [1, 2]])
        self.assertEqual(self.plan(1, 1, 3, 4, 1, 2, 1, 5, 5), [[0], [1, 2]])
        self.assertEqual(self.plan(1, 1, 3, 4, 1, 2, 1, 3, 3), [[1], [1, 2]])

    def test_rejecting_before_going_on(self):
        # Rejecting costs 12 / 3, going on 1 + 12 / 12 + 12 / 6, and accepting 24 / 3.
        self.assertEqual(self.plan(1, 1, 3, 4, 2, 3, 1, 12, 12), [[2], [1, 2]])
        self.assertEqual(self.plan(1, 1, 3, 4, 2, 3, 1, 13, 13), [[0], [1, 2]])

    def test_going_on_without_cost_and_without_use(self):
        # Whatever comes, the decision is the same one: stopping is preferred.
        self.assertEqual(self.plan(1, 1, 2, 4, 1, 100, 0, 10, 10), [[1], [1, 1]])
        self.assertEqual(self.plan(1, 1, 2, 4, 99, 100, 0, 10, 10), [[2], [2, 2]])

    def test_going_on_without_cost_and_of_use(self):
        self.assertEqual(self.plan(1, 1, 3, 4, 1, 2, 0, 10, 10), [[0], [1, 2]])

    def test_stopping_at_once_has_one_stop(self):
        calls = [("create", 5), ("optimal", 1, 3, 4, 1, 2, 1000, 10, 10)]
        self.assertEqual(last(*calls), [1])
        self.assertEqual(ask(*calls, ("stop_count",), ("acceptance", 1, 2))[2:], [[1, 1, 0], [0, 1, 1]])


if __name__ == "__main__":
    unittest.main()
