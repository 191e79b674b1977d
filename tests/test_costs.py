"""plan_cost and least_cost, against a plain model of costs."""

import unittest

from tests.helper import all_plans, ask, ask_behind, changing, fraction_of, last, many_plans
from tests.helper import model_cost, plan_behind, random_plan, setting
from tests.test_optimal import PROBLEMS, model_optimal


class PlanCost(unittest.TestCase):
    def check(self, rows, calls, problems=PROBLEMS):
        found = ask_behind(calls, [("plan_cost",) + problem for problem in problems])
        for problem, answer in zip(problems, found):
            self.assertEqual(fraction_of(answer), model_cost(rows, problem), (rows, problem))

    def test_every_plan_of_horizon_1_and_2(self):
        for horizon in (1, 2):
            for rows in all_plans(horizon):
                self.check(rows, setting(rows), PROBLEMS[::4] + PROBLEMS[1:3])

    def test_plans_of_horizon_3(self):
        for rows in list(all_plans(3))[::97]:
            self.check(rows, setting(rows), PROBLEMS[3:9])

    def test_many_plans_up_to_the_greatest_horizon(self):
        for calls in many_plans():
            self.check(plan_behind(calls[0][1], *calls), calls, PROBLEMS[:2] + PROBLEMS[7:10])

    def test_random_plans_of_horizon_20(self):
        for seed in range(3):
            rows = random_plan(20, seed, 15)
            rows[0][0] = 0
            self.check(rows, changing(rows))

    def test_each_loss_belongs_to_its_own_mistake(self):
        # (0, 0) rejects: only loss0 counts, and only with the prior of p0.
        calls = [("create", 3), ("set_decision", 0, 0, 2)]
        self.assertEqual(last(*calls, ("plan_cost", 1, 3, 4, 1, 5, 7, 30, 1000)), [0, 24, 1])
        # Always accepting: only loss1 counts, and only with the prior of p1.
        calls = [("create", 3), ("set_decision", 0, 0, 1)]
        self.assertEqual(last(*calls, ("plan_cost", 1, 3, 4, 1, 5, 7, 1000, 30)), [0, 6, 1])

    def test_each_observation_costs(self):
        self.assertEqual(last(("create", 20), ("plan_cost", 1, 3, 4, 0, 1, 7, 30, 30)), [0, 140, 1])
        self.assertEqual(last(("create", 20), ("plan_cost", 1, 3, 4, 1, 1, 7, 30, 30)), [0, 170, 1])

    def test_without_costs_and_losses(self):
        for calls in many_plans()[::5]:
            self.assertEqual(last(*calls, ("plan_cost", 1, 3, 4, 1, 2, 0, 0, 0)), [0, 0, 1])

    def test_prior_0_and_1_leave_one_probability(self):
        calls = [("create", 2), ("single", 0)]
        self.assertEqual(last(*calls, ("plan_cost", 1, 3, 4, 0, 9, 1, 16, 1000)), [0, 9, 1])
        self.assertEqual(last(*calls, ("plan_cost", 1, 3, 4, 9, 9, 1, 1000, 16)), [0, 3, 1])

    def test_greatest_numbers(self):
        calls = [("create", 20), ("plan_cost", 1, 999, 1000, 1000, 1000, 1000, 100000, 100000)]
        self.assertEqual(last(*calls), [0, 120000, 1])
        problem = (1, 999, 1000, 999, 1000, 1000, 100000, 99999)
        calls = [("create", 20), ("single", 0)]
        answer = last(*calls, ("plan_cost",) + problem)
        self.assertEqual(fraction_of(answer), model_cost(plan_behind(20, *calls), problem))
        self.assertGreater(answer[2].bit_length(), 64)


class LeastCost(unittest.TestCase):
    def test_by_the_words_of_the_document(self):
        for horizon in (1, 2, 3, 6, 9, 20):
            found = ask(("create", horizon), *[("least_cost",) + problem for problem in PROBLEMS])
            for problem, answer in zip(PROBLEMS, found[1:]):
                expected = model_optimal(horizon, problem)[1]
                self.assertEqual(fraction_of(answer), expected, (horizon, problem))

    def test_no_plan_is_cheaper(self):
        for horizon in (1, 2):
            plans = list(all_plans(horizon))
            for problem in PROBLEMS:
                cheapest = min(model_cost(rows, problem) for rows in plans)
                answer = last(("create", horizon), ("least_cost",) + problem)
                self.assertEqual(fraction_of(answer), cheapest, problem)

    def test_plan_does_not_matter_but_its_horizon(self):
        problem = ("least_cost", 1, 3, 4, 1, 2, 1, 100, 100)
        for horizon in (1, 2, 3, 6, 20):
            plain = last(("create", horizon), problem)
            for calls in many_plans():
                if calls[0][1] == horizon:
                    self.assertEqual(last(*calls, problem), plain)
        costs = [fraction_of(last(("create", horizon), problem)) for horizon in (1, 2, 3, 6)]
        self.assertEqual(costs, sorted(costs, reverse=True))
        self.assertGreater(costs[0], costs[3])

    def test_stopping_at_once(self):
        self.assertEqual(last(("create", 9), ("least_cost", 1, 3, 4, 1, 5, 1000, 10, 10)), [0, 2, 1])
        self.assertEqual(last(("create", 9), ("least_cost", 1, 3, 4, 4, 5, 1000, 10, 10)), [0, 2, 1])

    def test_without_costs_or_with_a_sure_prior(self):
        for rest in ((1, 2, 0, 0, 0), (0, 1, 1, 10, 10), (3, 3, 1, 10, 10), (1, 2, 1, 0, 9), (1, 2, 1, 9, 0)):
            self.assertEqual(last(("create", 4), ("least_cost", 1, 3, 4) + rest), [0, 0, 1])


if __name__ == "__main__":
    unittest.main()
