"""The ranges of calls 11 to 20: the least, the greatest, one beyond each, and two errors at once."""

import unittest

from tests.helper import GREATEST, PLAN, RangeCase, ask, plan_behind, setting

class ComputedCase(RangeCase):
    def check_kept(self, *calls, rows=PLAN):
        """Each call is answered, with no code, and leaves the plan as it was."""
        self.check_taken(*calls, rows=rows)
        for call in calls:
            found = plan_behind(len(rows) - 1, *setting(rows), call)
            self.assertEqual(found, rows, call)

    def check_several_codes(self, call, codes):
        """The greatest number at each place of a good call, each with its own code."""
        self.check_kept(call)
        self.assertEqual(len(codes), len(call) - 1)
        for place, code in enumerate(codes, start=1):
            wrong = list(call)
            wrong[place] = GREATEST
            self.check_refused(code, tuple(wrong))


class OneProbability(ComputedCase):
    def check_pairs(self, check, pairs):
        for p, divisor in pairs:
            check(("expected_size", p, divisor))
            check(("stop_probability", p, divisor, 2))

    def test_in_their_range(self):
        self.check_pairs(self.check_kept, [
            (0, 1), (1, 1), (0, 1000), (1000, 1000), (999, 1000), (1, 1000), (3, 7), (7, 7),
        ])

    def test_outside_their_range(self):
        self.check_pairs(lambda call: self.check_refused(-22, call), [
            (0, 0), (1, 0), (2, 1), (8, 7), (0, 1001), (1, 1001), (1001, 1001), (1001, 1000),
            (1000, 999), (GREATEST, GREATEST), (GREATEST, 1000), (0, GREATEST), (GREATEST, 0),
        ])

    def test_greatest_number(self):
        self.check_greatest_at_each_place(("expected_size", 1, 2), -22)
        self.check_several_codes(("stop_probability", 1, 2, 3), [-22, -22, -2])


class StopProbability(ComputedCase):
    def test_numbers_of_observations(self):
        self.check_kept(*[("stop_probability", 1, 2, n) for n in range(4)])
        self.check_refused(-2, *[("stop_probability", 1, 2, n) for n in (4, 5, 20, 21, GREATEST)])

    def test_number_of_observations_follows_the_horizon(self):
        for horizon in (1, 20):
            found = ask(
                ("create", horizon), ("stop_probability", 1, 2, horizon),
                ("stop_probability", 1, 2, horizon + 1),
            )
            self.assertEqual(found, [[0], [0, 1, 1], [-2]])

    def test_wrong_probability_comes_before_missing_row(self):
        self.check_refused(-22, *[("stop_probability", p, divisor, n) for p, divisor, n in [
            (3, 2, 4), (0, 0, 4), (0, 1001, 4), (1001, 1001, GREATEST),
            (GREATEST, GREATEST, GREATEST),
        ]])


class TwoProbabilities(ComputedCase):
    """Four calls have the same ranges for p0, p1 and divisor."""

    def calls(self, p0, p1, divisor):
        return [
            ("errors", p0, p1, divisor),
            ("plan_cost", p0, p1, divisor, 1, 2, 1, 10, 10),
            ("least_cost", p0, p1, divisor, 1, 2, 1, 10, 10),
            ("best_two_stage", p0, p1, divisor, 1, 1, 1, 1, 2),
        ]

    def check_pairs(self, check, pairs):
        for p0, p1, divisor in pairs:
            for call in self.calls(p0, p1, divisor):
                check(call)

    def test_in_their_range(self):
        self.check_pairs(self.check_kept, [
            (1, 2, 3), (1, 2, 4), (2, 3, 4), (1, 3, 4), (1, 999, 1000), (1, 2, 1000),
            (998, 999, 1000),
        ])

    def test_outside_their_range(self):
        self.check_pairs(lambda call: self.check_refused(-22, call), [
            (0, 1, 4), (0, 0, 4), (1, 1, 4), (2, 1, 4), (3, 2, 4), (3, 3, 4),
            (1, 4, 4), (3, 4, 4), (1, 5, 4), (4, 5, 4),
            (1, 2, 0), (0, 0, 0), (1, 2, 1), (0, 1, 1), (0, 0, 1), (1, 2, 2), (1, 1, 2), (0, 1, 2),
            (1, 2, 1001), (1, 1000, 1001), (1, 1000, 1000), (999, 1000, 1000), (0, 999, 1000),
            (1, 2, GREATEST), (GREATEST, GREATEST, GREATEST), (1, GREATEST - 1, GREATEST),
        ])

    def test_greatest_number(self):
        for call in self.calls(1, 3, 4):
            self.check_greatest_at_each_place(call, -22)


class Costs(ComputedCase):
    def calls(self, rest):
        return [(name, 1, 3, 4) + rest for name in ("plan_cost", "least_cost")]

    def test_in_their_range(self):
        for rest in [
            (0, 1, 1, 10, 10), (1, 1, 1, 10, 10), (0, 1000, 1, 10, 10), (1000, 1000, 1, 10, 10),
            (1, 1000, 1, 10, 10), (1, 2, 0, 10, 10), (1, 2, 1000, 10, 10), (1, 2, 1, 0, 10),
            (1, 2, 1, 100000, 10), (1, 2, 1, 10, 0), (1, 2, 1, 10, 100000), (1, 2, 0, 0, 0),
            (1, 2, 1000, 100000, 100000),
        ]:
            self.check_kept(*self.calls(rest))

    def test_outside_their_range(self):
        for rest in [
            (0, 0, 1, 10, 10), (1, 0, 1, 10, 10), (2, 1, 1, 10, 10), (3, 2, 1, 10, 10),
            (0, 1001, 1, 10, 10), (1, 1001, 1, 10, 10), (1001, 1001, 1, 10, 10),
            (1001, 1000, 1, 10, 10), (1, 2, 1001, 10, 10), (1, 2, 1, 100001, 10),
            (1, 2, 1, 10, 100001), (1, 2, 1001, 100001, 100001),
        ]:
            self.check_refused(-22, *self.calls(rest))


class Unbiased(ComputedCase):
    def test_stops(self):
        self.check_kept(("unbiased", 1, 1), ("unbiased", 2, 0), ("unbiased", 3, 1), ("unbiased", 3, 2))

    def test_points_that_are_not_there(self):
        self.check_refused(-2, *[("unbiased", n, s) for n, s in [
            (0, 1), (1, 2), (3, 4), (4, 0), (4, 4), (4, 5), (20, 0), (21, 0), (GREATEST, GREATEST),
        ]])
        self.check_greatest_at_each_place(("unbiased", 2, 0), -2)

    def test_points_that_are_no_stops(self):
        # (2, 2), (3, 0) and (3, 3) lie behind stops; at (0, 0), (1, 0) and (2, 1) the plan goes on.
        self.check_refused(-33, *[("unbiased", n, s) for n, s in [
            (0, 0), (1, 0), (2, 1), (2, 2), (3, 0), (3, 3),
        ]])

    def test_missing_point_comes_before_no_stop(self):
        # n = 0, and no such point; nothing behind a plan that stops at once is a stop.
        self.check_refused(-2, ("unbiased", 0, 1), ("unbiased", 0, GREATEST))
        at_once = [[1], [1, 1]]
        self.check_refused(-2, ("unbiased", 0, 1), ("unbiased", 2, 0), ("unbiased", 1, 2), rows=at_once)
        self.check_refused(-33, ("unbiased", 0, 0), ("unbiased", 1, 0), ("unbiased", 1, 1), rows=at_once)


class BestTwoStage(ComputedCase):
    def calls(self, *rests):
        return [("best_two_stage", 1, 3, 4) + rest for rest in rests]

    def test_in_their_range(self):
        self.check_kept(*self.calls(
            (1, 1, 1, 1, 2), (1, 1, 1, 1, 3), (1, 1, 1, 1, 7), (1, 1, 1, 1, 8),
            (1000, 1000, 1000, 1000, 2), (999, 1000, 1, 1, 2), (1, 1, 999, 1000, 2),
            (1, 2, 1, 2, 2), (7, 7, 3, 3, 5),
        ))

    def test_in_their_range_but_not_to_be_kept(self):
        self.check_refused(-33, *self.calls(
            (0, 1, 0, 1, 8), (0, 1000, 0, 1000, 8), (0, 1, 1, 1, 8), (1, 1, 0, 1, 8),
            (0, 1000, 1000, 1000, 2), (1000, 1000, 0, 1000, 2), (1, 1000, 1, 1000, 2),
        ))

    def test_outside_their_range(self):
        self.check_refused(-22, *self.calls(
            (0, 0, 1, 1, 2), (1, 0, 1, 1, 2), (2, 1, 1, 1, 2), (1001, 1000, 1, 1, 2),
            (0, 1001, 1, 1, 2), (1, 1001, 1, 1, 2), (1001, 1001, 1, 1, 2),
            (1, 1, 0, 0, 2), (1, 1, 1, 0, 2), (1, 1, 2, 1, 2), (1, 1, 1001, 1000, 2),
            (1, 1, 0, 1001, 2), (1, 1, 1, 1001, 2), (1, 1, 1001, 1001, 2),
            (1, 1, 1, 1, 0), (1, 1, 1, 1, 1), (1, 1, 1, 1, 9), (1, 1, 1, 1, 10), (1, 1, 1, 1, 20),
        ))

    def test_wrong_number_comes_before_no_such_plan(self):
        self.check_refused(-22, *self.calls(
            (0, 1, 0, 1, 1), (0, 1, 0, 1, 9), (0, 0, 0, 1, 2), (0, 1001, 0, 1, 2), (0, 1, 0, 0, 2),
            (0, 1, 0, 1001, 2), (2, 1, 0, 1, 2), (0, 1, 2, 1, 2),
        ))
        self.check_refused(
            -22, ("best_two_stage", 3, 1, 4, 0, 1, 0, 1, 2), ("best_two_stage", 0, 1, 4, 0, 1, 0, 1, 2),
            ("best_two_stage", 1, 4, 4, 0, 1, 0, 1, 2), ("best_two_stage", 1, 3, 1001, 0, 1, 0, 1, 2),
        )


class Successes(ComputedCase):
    def test_in_their_range(self):
        self.check_kept(*[("successes", trials, 1, 1, 1, 1) for trials in range(8)])
        for trials in (0, 1, 7):
            for place in range(4):
                for weight in (1, 100):
                    weights = [3, 5, 7, 11]
                    weights[place] = weight
                    self.check_kept(("successes", trials, *weights))
            self.check_kept(("successes", trials, 100, 100, 100, 100))

    def test_trials_outside_their_range(self):
        self.check_refused(-22, *[("successes", trials, 1, 1, 1, 1) for trials in (8, 9, 20, GREATEST)])

    def test_weights_outside_their_range(self):
        for trials in (0, 1, 7):
            for place in range(4):
                for weight in (0, 101, 102, 1000):
                    weights = [3, 5, 7, 11]
                    weights[place] = weight
                    self.check_refused(-22, ("successes", trials, *weights))
            self.check_refused(-22, ("successes", trials, 0, 0, 0, 0))
            self.check_greatest_at_each_place(("successes", trials, 1, 1, 1, 1), -22)


class Row(ComputedCase):
    def test_in_its_range(self):
        self.check_kept(*[("row", n) for n in range(4)])

    def test_outside_its_range(self):
        self.check_refused(-2, *[("row", n) for n in (4, 5, 20, 21)])
        self.check_greatest_at_each_place(("row", 1), -2)

    def test_range_follows_the_horizon(self):
        for horizon in range(1, 21):
            found = ask(("create", horizon), ("row", horizon), ("row", horizon + 1))
            self.assertEqual(found, [[0], [horizon + 1] + [1] * (horizon + 1), [-2]])


class Summary(ComputedCase):
    def test_without_numbers(self):
        self.check_kept(("summary",))


if __name__ == "__main__":
    unittest.main()
