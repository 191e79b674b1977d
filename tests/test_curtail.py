"""curtail: stopping as soon as the decision is sure."""

import unittest
from fractions import Fraction

from tests.helper import all_plans, ask, last, model_chance, model_paths, model_size
from tests.helper import plan_behind, setting


def reached(rows, n, s):
    """The decisions other than 0 that can be reached from a point."""
    if rows[n][s]:
        return {rows[n][s]}
    return reached(rows, n + 1, s) | reached(rows, n + 1, s + 1)


def model_curtailed(rows):
    curtailed = []
    for n, row in enumerate(rows):
        curtailed.append([])
        for s in range(len(row)):
            ends = reached(rows, n, s)
            curtailed[n].append(ends.pop() if len(ends) == 1 else 0)
    return curtailed


class SmallPlans(unittest.TestCase):
    def check(self, rows):
        horizon = len(rows) - 1
        reads = [("decision", n, s) for n in range(horizon + 1) for s in range(n + 1)]
        calls = setting(rows) + [("curtail",), ("stop_count",)]
        found = ask(*calls, *reads)
        expected = model_curtailed(rows)
        self.assertEqual(found[len(calls):], [[d] for row in expected for d in row], rows)
        stops = []
        for row, counts in zip(expected, model_paths(expected)):
            stops += [decision for decision, count in zip(row, counts) if decision and count]
        counted = [len(stops), stops.count(1), stops.count(2)]
        self.assertEqual(found[len(calls) - 2:len(calls)], [counted[:1], counted], rows)

    def test_every_plan_of_horizon_1_and_2(self):
        for horizon in (1, 2):
            for rows in all_plans(horizon):
                self.check(rows)

    def test_plans_of_horizon_3(self):
        # Every seventh one: 7 divides no power of 2 or 3, so each decision comes at each point.
        for rows in list(all_plans(3))[::7]:
            self.check(rows)


class Curtail(unittest.TestCase):
    def test_single_plans(self):
        for horizon in range(1, 13):
            for limit in range(horizon + 1):
                rows = plan_behind(horizon, ("create", horizon), ("single", limit), ("curtail",))
                for n, row in enumerate(rows):
                    for s, decision in enumerate(row):
                        expected = 2 if s > limit else 1 if s + horizon - n <= limit else 0
                        self.assertEqual(decision, expected)

    def test_plan_that_only_accepts_stops_at_once(self):
        found = ask(
            ("create", 3), ("curtail",), ("stop_count",), ("decision", 0, 0), ("decision", 2, 1),
            ("acceptance", 1, 3), ("paths", 1, 1), ("paths", 0, 0),
        )
        self.assertEqual(found, [[0], [1], [1, 1, 0], [1], [1], [0, 1, 1], [0], [1]])

    def test_plan_that_only_rejects_stops_at_once(self):
        rows = [[0], [0, 0], [2, 2, 2]]
        found = ask(*setting(rows), ("curtail",), ("decision", 0, 0), ("acceptance", 1, 3))
        self.assertEqual(found[-3:], [[1], [2], [0, 0, 1]])

    def test_point_without_a_path(self):
        # (1, 0) stops, so nothing leads to (2, 0); what comes behind it counts all the same.
        rows = [[0], [2, 0], [0, 0, 0], [1, 1, 2, 1]]
        calls = setting(rows) + [("curtail",)]
        self.assertEqual(plan_behind(3, *calls), [[0], [2, 0], [1, 0, 0], [1, 1, 2, 1]])
        self.assertEqual(last(*calls, ("paths", 2, 0)), [0])

    def test_decision_at_a_point_without_a_path_is_no_barrier(self):
        # From (1, 1) on there is a 2 at (2, 1) and a 1 at (3, 3): both can be reached.
        rows = [[1], [0, 0], [0, 2, 0], [1, 1, 1, 1]]
        calls = setting(rows) + [("curtail",)]
        self.assertEqual(plan_behind(3, *calls), [[1], [0, 0], [1, 2, 1], [1, 1, 1, 1]])
        self.assertEqual(last(*calls), [1])

    def test_decisions_behind_a_stop_do_not_count(self):
        # From (1, 0) only 1 is reached: the 2 at (3, 0) lies behind the stop (2, 0).
        rows = [[0], [0, 2], [1, 1, 2], [2, 2, 2, 2]]
        calls = setting(rows) + [("curtail",)]
        self.assertEqual(plan_behind(3, *calls), [[0], [1, 2], [1, 1, 2], [2, 2, 2, 2]])

    def test_stops_stay_though_both_sides_would_do_otherwise(self):
        rows = [[0], [1, 2], [2, 2, 2]]
        calls = setting(rows) + [("curtail",)]
        self.assertEqual(plan_behind(2, *calls), rows)

    def test_twice_is_once(self):
        beginnings = [
            [("create", 6), ("single", 2)],
            [("create", 6), ("two_stage", 3, 1, 4)],
            [("create", 6), ("likelihood", 1, 2, 4, 1, 2, 4, 1)],
            setting([[0], [2, 0], [0, 0, 0], [1, 1, 2, 1]]),
        ]
        for calls in beginnings:
            horizon = calls[0][1]
            once = calls + [("curtail",)]
            twice = once + [("curtail",)]
            self.assertEqual(plan_behind(horizon, *twice), plan_behind(horizon, *once))
            self.assertEqual(last(*twice), last(*once))

    def test_set_decision_behind_curtail(self):
        found = ask(
            ("create", 2), ("curtail",), ("set_decision", 0, 0, 0), ("set_decision", 1, 1, 0),
            ("set_decision", 2, 2, 2), ("stop_count",), ("curtail",), ("stop_count",),
        )
        self.assertEqual(found[2:], [[1], [1], [1], [3, 2, 1], [3], [3, 2, 1]])


class Requirement4(unittest.TestCase):
    def test_no_acceptance_changes_and_no_size_grows(self):
        chances = [(0, 1), (1, 3), (1, 2), (6, 7), (1, 1)]
        asked = [("acceptance", p, divisor) for p, divisor in chances]
        for rows in all_plans(2):
            calls = setting(rows)
            before = ask(*calls, *asked)[len(calls):]
            after = ask(*calls, ("curtail",), *asked)[len(calls) + 1:]
            self.assertEqual(before, after, rows)
            curtailed = plan_behind(2, *calls, ("curtail",))
            for p, divisor in chances:
                x = Fraction(p, divisor)
                self.assertLessEqual(model_size(curtailed, x), model_size(rows, x))
                self.assertEqual(model_chance(curtailed, x, 1), model_chance(rows, x, 1))


if __name__ == "__main__":
    unittest.main()
