"""The ranges of calls 0 to 10: the least, the greatest, and one beyond each."""

import unittest

from tests.helper import GREATEST, RangeCase, ask, points


class Create(RangeCase):
    def test_horizon_in_its_range(self):
        for horizon in range(1, 21):
            self.assertEqual(ask(("create", horizon)), [[0]])

    def test_horizon_outside_its_range(self):
        for horizon in (0, 21, 22, 1000, GREATEST):
            self.assertEqual(ask(("create", horizon)), [[-22]])
            self.check_refused(-22, ("create", horizon))

    def test_horizon_20_has_row_20_and_no_row_21(self):
        found = ask(("create", 20), ("decision", 20, 20), ("decision", 21, 0))
        self.assertEqual(found, [[0], [1], [-2]])

    def test_horizon_1_has_row_1_and_no_row_2(self):
        found = ask(("create", 1), ("decision", 1, 1), ("decision", 2, 0))
        self.assertEqual(found, [[0], [1], [-2]])


class SetDecision(RangeCase):
    def test_points_that_are_there(self):
        self.check_taken(
            ("set_decision", 0, 0, 0), ("set_decision", 1, 0, 1), ("set_decision", 1, 1, 2),
            ("set_decision", 2, 2, 0), ("set_decision", 3, 0, 1), ("set_decision", 3, 3, 2),
        )

    def test_points_that_are_not_there(self):
        self.check_refused(
            -2, ("set_decision", 0, 1, 1), ("set_decision", 2, 3, 1), ("set_decision", 3, 4, 1),
            ("set_decision", 4, 0, 1), ("set_decision", 4, 4, 1), ("set_decision", 4, 5, 1),
            ("set_decision", GREATEST, 0, 1), ("set_decision", 2, GREATEST, 1),
            ("set_decision", GREATEST, GREATEST, 1),
        )

    def test_decisions_outside_their_range(self):
        self.check_refused(
            -22, ("set_decision", 0, 0, 3), ("set_decision", 2, 1, 3),
            ("set_decision", 2, 1, GREATEST), ("set_decision", 3, 1, 3),
            ("set_decision", 3, 1, GREATEST),
        )

    def test_going_on_at_the_horizon(self):
        self.check_refused(-22, *[("set_decision", 3, s, 0) for s in range(4)])
        self.check_taken(*[("set_decision", 2, s, 0) for s in range(3)])

    def test_missing_point_comes_before_wrong_decision(self):
        self.check_refused(
            -2, ("set_decision", 4, 0, 0), ("set_decision", 4, 0, 3), ("set_decision", 3, 4, 0),
            ("set_decision", 2, 3, 3), ("set_decision", GREATEST, GREATEST, GREATEST),
        )

    def test_greatest_number(self):
        self.check_refused(-2, ("set_decision", GREATEST, 1, 1), ("set_decision", 1, GREATEST, 1))
        self.check_refused(-22, ("set_decision", 1, 1, GREATEST))


class ReadingPoints(RangeCase):
    def test_points_that_are_there(self):
        for name in ("decision", "paths"):
            self.check_taken(*[(name, n, s) for n, s in points(3)])

    def test_points_that_are_not_there(self):
        for name in ("decision", "paths"):
            self.check_refused(
                -2, (name, 0, 1), (name, 1, 2), (name, 3, 4), (name, 4, 0), (name, 4, 4),
                (name, 4, 5), (name, 21, 0), (name, GREATEST, GREATEST),
            )
            self.check_greatest_at_each_place((name, 2, 1), -2)


class Single(RangeCase):
    def test_limits(self):
        self.check_taken(*[("single", limit) for limit in range(4)])
        self.check_refused(-22, ("single", 4), ("single", 5))
        self.check_greatest_at_each_place(("single", 1), -22)

    def test_limits_follow_the_horizon(self):
        self.assertEqual(ask(("create", 1), ("single", 1), ("single", 2)), [[0], [2], [-22]])
        self.assertEqual(ask(("create", 20), ("single", 20), ("single", 21)), [[0], [21], [-22]])


class TwoProbabilities(RangeCase):
    """likelihood and optimal have the same ranges for p0, p1 and divisor."""

    def calls(self, p0, p1, divisor):
        return [
            ("likelihood", p0, p1, divisor, 1, 2, 4, 1),
            ("optimal", p0, p1, divisor, 1, 2, 1, 10, 10),
        ]

    def check_pairs(self, check, pairs):
        for p0, p1, divisor in pairs:
            for call in self.calls(p0, p1, divisor):
                check(call)

    def test_in_their_range(self):
        self.check_pairs(self.check_taken, [
            (1, 2, 3), (1, 2, 4), (2, 3, 4), (1, 999, 1000), (1, 2, 1000), (998, 999, 1000),
        ])

    def test_outside_their_range(self):
        self.check_pairs(lambda call: self.check_refused(-22, call), [
            (0, 1, 4), (0, 0, 4), (1, 1, 4), (2, 1, 4), (3, 2, 4), (3, 3, 4),
            (1, 4, 4), (3, 4, 4), (1, 5, 4), (4, 5, 4),
            (1, 2, 0), (0, 0, 0), (1, 2, 1), (0, 1, 1), (1, 2, 2), (1, 1, 2), (0, 1, 2),
            (1, 2, 1001), (1, 1000, 1001), (1, 1000, 1000), (999, 1000, 1000),
            (1, 2, GREATEST), (GREATEST, GREATEST, GREATEST), (1, GREATEST - 1, GREATEST),
        ])


class Likelihood(RangeCase):
    def call(self, *bounds):
        return ("likelihood", 1, 2, 4) + bounds

    def test_bounds_in_their_range(self):
        self.check_taken(*[self.call(*bounds) for bounds in [
            (0, 1, 1, 1), (0, 1000, 1, 1000), (0, 1, 1, 1000), (0, 1000, 1000000, 1),
            (1, 2, 1000000, 1), (999999, 1, 1000000, 1), (1000000, 2, 1000000, 1),
            (1000000, 1000, 1000000, 999), (1, 1000, 2, 1000), (1, 3, 1, 2), (999, 1000, 1000, 1000),
            (332, 1000, 1, 3), (1, 3, 334, 1000),
        ]])

    def test_bounds_outside_their_range(self):
        self.check_refused(-22, *[self.call(*bounds) for bounds in [
            (0, 0, 4, 1), (1, 0, 4, 1), (1, 2, 4, 0), (0, 0, 0, 0), (1, 1001, 4, 1), (1, 2, 4, 1001),
            (1, 2, 1000, 1001), (0, 1001, 4, 1), (1, 2, 1000001, 1), (0, 1, 1000001, 1000),
            (1000001, 1000, 1000000, 1), (1000001, 1, 1000001, 1), (1000001, 1000, 1000000, 999),
        ]])

    def test_low_bound_not_below_the_high_one(self):
        self.check_refused(-22, *[self.call(*bounds) for bounds in [
            (1, 2, 1, 2), (1, 2, 2, 4), (2, 4, 1, 2), (0, 1, 0, 1), (0, 1, 0, 7), (1, 1, 1000, 1000),
            (4, 1, 1, 2), (1, 2, 1, 3), (2, 3, 1, 2), (1000000, 1, 1000000, 1), (3, 7, 2, 5),
            (1000000, 1, 999999, 1), (1000, 1, 1000000, 1000), (334, 1000, 1, 3), (1, 3, 333, 1000),
        ]])

    def test_greatest_number(self):
        self.check_greatest_at_each_place(self.call(1, 2, 4, 1), -22)


class TwoStage(RangeCase):
    def test_in_their_range(self):
        self.check_taken(
            ("two_stage", 1, 0, 0), ("two_stage", 1, 1, 3), ("two_stage", 2, 0, 0),
            ("two_stage", 2, 2, 3), ("two_stage", 2, 2, 0), ("two_stage", 1, 1, 0),
        )

    def test_outside_their_range(self):
        self.check_refused(
            -22, ("two_stage", 0, 0, 1), ("two_stage", 3, 0, 1), ("two_stage", 4, 0, 1),
            ("two_stage", 3, 3, 3), ("two_stage", 1, 2, 1), ("two_stage", 2, 3, 1),
            ("two_stage", 1, 0, 4), ("two_stage", 2, 2, 4), ("two_stage", 0, 1, 4),
        )
        self.check_greatest_at_each_place(("two_stage", 1, 0, 1), -22)

    def test_horizon_1_has_no_first_stage(self):
        rows = [[0], [2, 1]]
        for first in (0, 1, 2):
            for first_limit in (0, 1):
                self.check_refused(-22, ("two_stage", first, first_limit, 0), rows=rows)

    def test_horizon_2_and_20(self):
        rows = [[0], [0, 0], [1, 1, 2]]
        self.check_taken(("two_stage", 1, 1, 2), ("two_stage", 1, 0, 0), rows=rows)
        self.check_refused(
            -22, ("two_stage", 2, 0, 0), ("two_stage", 1, 2, 0), ("two_stage", 1, 0, 3), rows=rows,
        )
        found = ask(
            ("create", 20), ("two_stage", 19, 19, 20), ("two_stage", 20, 19, 20),
            ("two_stage", 19, 20, 20), ("two_stage", 19, 19, 21),
        )
        self.assertEqual(found, [[0], [20], [-22], [-22], [-22]])


class Optimal(RangeCase):
    def call(self, *rest):
        return ("optimal", 1, 3, 4) + rest

    def test_in_their_range(self):
        self.check_taken(*[self.call(*rest) for rest in [
            (0, 1, 1, 10, 10), (1, 1, 1, 10, 10), (0, 1000, 1, 10, 10), (1000, 1000, 1, 10, 10),
            (1, 1000, 1, 10, 10), (1, 2, 0, 10, 10), (1, 2, 1000, 10, 10), (1, 2, 1, 0, 10),
            (1, 2, 1, 100000, 10), (1, 2, 1, 10, 0), (1, 2, 1, 10, 100000), (1, 2, 0, 0, 0),
            (1, 2, 1000, 100000, 100000),
        ]])

    def test_outside_their_range(self):
        self.check_refused(-22, *[self.call(*rest) for rest in [
            (0, 0, 1, 10, 10), (1, 0, 1, 10, 10), (2, 1, 1, 10, 10), (3, 2, 1, 10, 10),
            (1, 1001, 1, 10, 10), (1001, 1001, 1, 10, 10), (1001, 1000, 1, 10, 10),
            (1, 2, 1001, 10, 10), (1, 2, 1, 100001, 10), (1, 2, 1, 10, 100001),
            (1, 2, 1001, 100001, 100001),
        ]])

    def test_greatest_number(self):
        self.check_greatest_at_each_place(self.call(1, 2, 1, 10, 10), -22)


class Acceptance(RangeCase):
    def test_in_their_range(self):
        self.check_taken(
            ("acceptance", 0, 1), ("acceptance", 1, 1), ("acceptance", 0, 1000),
            ("acceptance", 1000, 1000), ("acceptance", 999, 1000), ("acceptance", 3, 7),
        )

    def test_outside_their_range(self):
        self.check_refused(
            -22, ("acceptance", 0, 0), ("acceptance", 1, 0), ("acceptance", 2, 1),
            ("acceptance", 8, 7), ("acceptance", 0, 1001), ("acceptance", 1001, 1001),
            ("acceptance", 1001, 1000), ("acceptance", 1, 1001), ("acceptance", GREATEST, GREATEST),
        )
        self.check_greatest_at_each_place(("acceptance", 1, 2), -22)


if __name__ == "__main__":
    unittest.main()
