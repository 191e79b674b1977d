"""paths, stop_count and acceptance, against a plain model of every small plan."""

import unittest
from fractions import Fraction
from math import comb

from tests.helper import all_plans, ask, fraction_of, last, model_chance, model_paths
from tests.helper import paths_behind, points, setting

CHANCES = [(0, 1), (0, 1000), (1, 1000), (1, 4), (2, 4), (1, 2), (5, 7), (999, 1000), (1, 1), (3, 3)]


class SmallPlans(unittest.TestCase):
    def check(self, rows):
        horizon = len(rows) - 1
        calls = setting(rows)
        asked = [("paths", n, s) for n, s in points(horizon)] + [("stop_count",)]
        asked += [("acceptance", p, divisor) for p, divisor in CHANCES]
        found = ask(*calls, *asked)[len(calls):]
        counts = model_paths(rows)
        flat_counts = [count for row in counts for count in row]
        self.assertEqual(found[:len(flat_counts)], [[count] for count in flat_counts], rows)
        stops = []
        for row, row_counts in zip(rows, counts):
            stops += [d for d, count in zip(row, row_counts) if d and count]
        expected = [len(stops), stops.count(1), stops.count(2)]
        self.assertEqual(found[len(flat_counts)], expected, rows)
        for (p, divisor), answer in zip(CHANCES, found[len(flat_counts) + 1:]):
            x = Fraction(p, divisor)
            self.assertEqual(fraction_of(answer), model_chance(rows, x, 1), (rows, x))

    def test_every_plan_of_horizon_1_and_2(self):
        for horizon in (1, 2):
            for rows in all_plans(horizon):
                self.check(rows)

    def test_plans_of_horizon_3(self):
        for rows in list(all_plans(3))[::25]:
            self.check(rows)


class Paths(unittest.TestCase):
    def test_without_stops_the_paths_are_all_sequences(self):
        rows = paths_behind(20, ("create", 20))
        self.assertEqual(rows, [[comb(n, s) for s in range(n + 1)] for n in range(21)])

    def test_beginning_has_one_path_also_if_it_stops(self):
        for decision in (1, 2):
            calls = [("create", 2), ("set_decision", 0, 0, decision)]
            self.assertEqual(paths_behind(2, *calls), [[1], [0, 0], [0, 0, 0]])

    def test_paths_lead_to_a_stop_but_not_through_it(self):
        calls = [("create", 3), ("set_decision", 1, 0, 2)]
        self.assertEqual(paths_behind(3, *calls), [[1], [1, 1], [0, 1, 1], [0, 1, 2, 1]])

    def test_decision_at_the_point_itself_does_not_matter(self):
        for decision in (0, 1, 2):
            calls = [("create", 3), ("set_decision", 2, 1, decision)]
            self.assertEqual(last(*calls, ("paths", 2, 1)), [2])

    def test_follows_the_plan_as_it_changes(self):
        found = ask(
            ("create", 2), ("paths", 2, 1), ("set_decision", 1, 1, 1), ("paths", 2, 1),
            ("set_decision", 1, 0, 2), ("paths", 2, 1), ("single", 0), ("paths", 2, 1),
        )
        self.assertEqual(found[1::2], [[2], [1], [0], [2]])


class StopCount(unittest.TestCase):
    def test_points_without_a_path_are_no_stops(self):
        rows = [[0], [1, 2], [1, 2, 1], [2, 2, 2, 2]]
        self.assertEqual(last(*setting(rows), ("stop_count",)), [2, 1, 1])

    def test_plan_that_stops_at_once(self):
        for decision, counted in ((1, [1, 1, 0]), (2, [1, 0, 1])):
            calls = [("create", 20), ("set_decision", 0, 0, decision)]
            self.assertEqual(last(*calls, ("stop_count",)), counted)

    def test_replacing_plans_counts_only_stops_with_a_path(self):
        # All three stop at (0, 0), though every point has a decision.
        found = ask(
            ("create", 3), ("curtail",), ("optimal", 1, 3, 4, 0, 1, 1, 10, 10), ("curtail",),
        )
        self.assertEqual(found, [[0], [1], [1], [1]])


class Acceptance(unittest.TestCase):
    def test_sure_outcomes(self):
        calls = [("create", 4), ("single", 1)]
        self.assertEqual(last(*calls, ("acceptance", 0, 7)), [0, 1, 1])
        self.assertEqual(last(*calls, ("acceptance", 7, 7)), [0, 0, 1])

    def test_plan_that_stops_at_once(self):
        for p, divisor in CHANCES:
            calls = [("create", 20), ("set_decision", 0, 0, 1)]
            self.assertEqual(last(*calls, ("acceptance", p, divisor)), [0, 1, 1])
            calls = [("create", 20), ("set_decision", 0, 0, 2)]
            self.assertEqual(last(*calls, ("acceptance", p, divisor)), [0, 0, 1])

    def test_lowest_terms(self):
        calls = [("create", 2), ("single", 0)]
        for p, divisor in ((1, 2), (2, 4), (500, 1000)):
            self.assertEqual(last(*calls, ("acceptance", p, divisor)), [0, 1, 4])
        self.assertEqual(last(*calls, ("acceptance", 2, 3)), [0, 1, 9])
        self.assertEqual(last(*calls, ("acceptance", 1, 3)), [0, 4, 9])

    def test_numbers_longer_than_64_bits(self):
        calls = [("create", 20), ("single", 0)]
        found = last(*calls, ("acceptance", 1, 1000))
        self.assertEqual(found, [0, 999 ** 20, 1000 ** 20])
        calls = [("create", 20), ("single", 19)]
        found = last(*calls, ("acceptance", 1, 1000))
        self.assertEqual(found, [0, 1000 ** 20 - 1, 1000 ** 20])

    def test_single_plans_at_horizon_20(self):
        for limit in (0, 7, 19, 20):
            for p, divisor in CHANCES:
                x = Fraction(p, divisor)
                terms = [comb(20, s) * x ** s * (1 - x) ** (20 - s) for s in range(limit + 1)]
                calls = [("create", 20), ("single", limit), ("acceptance", p, divisor)]
                self.assertEqual(fraction_of(last(*calls)), sum(terms))

    def test_accepting_and_rejecting_add_up_to_1(self):
        # Requirement 1: with all decisions turned round, the rest is accepted.
        for rows in all_plans(2):
            turned = [[(0, 2, 1)[decision] for decision in row] for row in rows]
            for p, divisor in ((0, 1), (2, 7), (1, 1)):
                asked = ("acceptance", p, divisor)
                both = fraction_of(last(*setting(rows), asked)) + fraction_of(last(*setting(turned), asked))
                self.assertEqual(both, 1)


if __name__ == "__main__":
    unittest.main()
