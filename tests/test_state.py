"""The state: before, between and behind creates."""

import unittest

from tests.helper import ask, last, plan_behind

# Each operation other than create, once in order and once with wrong numbers.
GOOD = [
    ("set_decision", 0, 0, 1), ("single", 1), ("likelihood", 1, 2, 4, 1, 2, 4, 1),
    ("two_stage", 1, 0, 1), ("curtail",), ("optimal", 1, 3, 4, 1, 2, 1, 10, 10),
    ("decision", 0, 0), ("paths", 0, 0), ("stop_count",), ("acceptance", 1, 2),
    ("expected_size", 1, 2), ("stop_probability", 1, 2, 1), ("errors", 1, 3, 4),
    ("plan_cost", 1, 3, 4, 1, 2, 1, 10, 10), ("least_cost", 1, 3, 4, 1, 2, 1, 10, 10),
    ("unbiased", 1, 0), ("best_two_stage", 1, 3, 4, 1, 2, 1, 2, 2), ("successes", 2, 1, 1, 2, 1),
    ("row", 2), ("summary",),
]
WRONG = [
    ("set_decision", 4, 0, 1), ("set_decision", 0, 0, 3), ("single", 99),
    ("likelihood", 2, 1, 4, 1, 2, 4, 1), ("two_stage", 0, 0, 1),
    ("optimal", 1, 3, 0, 1, 2, 1, 10, 10), ("decision", 1, 2), ("paths", 1, 2),
    ("acceptance", 1, 0), ("expected_size", 3, 2), ("stop_probability", 1, 2, 4),
    ("stop_probability", 1, 0, 4), ("errors", 3, 1, 4), ("plan_cost", 1, 3, 4, 3, 2, 1, 10, 10),
    ("least_cost", 1, 3, 4, 1, 0, 1, 10, 10), ("unbiased", 4, 0), ("unbiased", 0, 0),
    ("best_two_stage", 1, 3, 4, 1, 2, 1, 2, 9), ("best_two_stage", 1, 3, 4, 0, 1, 0, 1, 8),
    ("successes", 8, 1, 1, 1, 1), ("successes", 0, 0, 1, 1, 1), ("row", 4),
]
REPLACING = ("single", "likelihood", "two_stage", "curtail", "optimal")
READS = [call for call in GOOD if call[0] != "set_decision" and call[0] not in REPLACING]


class BeforeCreate(unittest.TestCase):
    def test_every_operation_ahead_of_create(self):
        for call in GOOD + WRONG:
            self.assertEqual(ask(call), [[-11]], call)

    def test_every_operation_behind_a_create_that_failed(self):
        for call in GOOD + WRONG:
            for horizon in (0, 21, 4294967295):
                self.assertEqual(ask(("create", horizon), call), [[-22], [-11]], call)

    def test_refused_operation_makes_nothing_usable(self):
        self.assertEqual(ask(*GOOD, *GOOD), [[-11]] * 2 * len(GOOD))

    def test_create_makes_the_instance_usable(self):
        found = ask(("stop_count",), ("create", 0), ("create", 2), ("stop_count",))
        self.assertEqual(found, [[-11], [-22], [0], [3, 3, 0]])


class AfterCreate(unittest.TestCase):
    def test_goes_on_everywhere_but_accepts_at_the_horizon(self):
        for horizon in range(1, 21):
            expected = [[0] * (n + 1) for n in range(horizon)] + [[1] * (horizon + 1)]
            self.assertEqual(plan_behind(horizon, ("create", horizon)), expected)

    def test_second_create_begins_anew(self):
        for call in GOOD:
            for horizon in (3, 2, 5):
                expected = plan_behind(horizon, ("create", horizon))
                calls = [("create", 3), ("set_decision", 1, 0, 2), call, ("create", horizon)]
                self.assertEqual(plan_behind(horizon, *calls), expected, call)

    def test_second_create_has_its_own_horizon(self):
        found = ask(("create", 2), ("create", 4), ("decision", 4, 4), ("decision", 5, 0))
        self.assertEqual(found, [[0], [0], [1], [-2]])
        found = ask(("create", 4), ("create", 2), ("decision", 2, 2), ("decision", 3, 0))
        self.assertEqual(found, [[0], [0], [1], [-2]])

    def test_create_that_fails_keeps_the_plan(self):
        for horizon in (0, 21):
            calls = [("create", 3), ("single", 0), ("set_decision", 2, 1, 2), ("create", horizon)]
            expected = [[0], [0, 0], [0, 2, 0], [1, 2, 2, 2]]
            self.assertEqual(plan_behind(3, *calls), expected)
            self.assertEqual(last(*calls), [-22])

    def test_refused_operations_keep_the_plan(self):
        calls = [("create", 3), ("two_stage", 1, 0, 1), ("set_decision", 2, 2, 2)]
        expected = [[0], [1, 0], [0, 0, 2], [1, 1, 2, 2]]
        self.assertEqual(plan_behind(3, *calls), expected)
        for call in WRONG:
            self.assertIn(last(*calls, call), ([-2], [-22], [-33]))
        self.assertEqual(plan_behind(3, *calls, *WRONG), expected)


class SetDecision(unittest.TestCase):
    def test_answers_the_previous_decision(self):
        found = ask(
            ("create", 2), ("set_decision", 1, 1, 2), ("set_decision", 1, 1, 1),
            ("set_decision", 1, 1, 0), ("set_decision", 1, 1, 0), ("set_decision", 2, 0, 2),
            ("set_decision", 2, 0, 1), ("set_decision", 2, 0, 2),
        )
        self.assertEqual(found, [[0], [0], [2], [1], [0], [1], [2], [1]])

    def test_changes_the_one_point_alone(self):
        for n in range(4):
            for s in range(n + 1):
                expected = [[0], [0, 0], [0, 0, 0], [1, 1, 1, 1]]
                expected[n][s] = 2
                calls = [("create", 3), ("set_decision", n, s, 2)]
                self.assertEqual(plan_behind(3, *calls), expected)

    def test_refused_one_answers_no_previous_decision(self):
        found = ask(
            ("create", 2), ("set_decision", 1, 0, 2), ("set_decision", 1, 0, 3),
            ("decision", 1, 0), ("set_decision", 1, 0, 0),
        )
        self.assertEqual(found, [[0], [0], [-22], [2], [2]])


class ReplacingPlans(unittest.TestCase):
    def test_replaced_plan_keeps_nothing_of_the_one_before(self):
        for call in GOOD:
            if call[0] in ("single", "likelihood", "two_stage", "optimal"):
                fresh = plan_behind(3, ("create", 3), call)
                changed = [("create", 3)]
                for n in range(4):
                    changed += [("set_decision", n, s, 2) for s in range(n + 1)]
                self.assertEqual(plan_behind(3, *changed, call), fresh, call)

    def test_horizon_stays(self):
        for call in GOOD:
            found = ask(("create", 3), call, ("decision", 3, 3), ("decision", 4, 0))
            self.assertIn(found[2], ([1], [2]))
            self.assertEqual(found[3], [-2])

    def test_reading_changes_nothing(self):
        calls = [("create", 3), ("two_stage", 1, 0, 1), ("set_decision", 2, 2, 2)]
        self.assertEqual(len(READS), 14)
        before = plan_behind(3, *calls)
        for read in READS:
            self.assertEqual(plan_behind(3, *calls, read), before, read)
        self.assertEqual(plan_behind(3, *calls, *READS), before)

    def test_reading_twice_answers_alike(self):
        calls = [("create", 3), ("two_stage", 1, 0, 1), ("set_decision", 2, 2, 2)]
        found = ask(*calls, *READS, *reversed(READS), *WRONG, *READS)[len(calls):]
        once = found[:len(READS)]
        self.assertGreaterEqual(min([min(answer) for answer in once]), 0)
        self.assertEqual(found[len(READS):2 * len(READS)], once[::-1])
        self.assertEqual(found[-len(READS):], once)

    def test_reading_follows_the_plan_as_it_changes(self):
        reads = [
            ("expected_size", 1, 2), ("stop_probability", 1, 2, 1), ("errors", 1, 2, 3),
            ("plan_cost", 1, 2, 3, 1, 2, 1, 3, 3), ("row", 1), ("unbiased", 2, 1), ("summary",),
        ]
        found = ask(
            ("create", 2), *reads, ("set_decision", 1, 1, 2), *reads,
            ("set_decision", 0, 0, 1), *reads, ("create", 1), *reads,
        )
        self.assertEqual(found[1:8], [
            [0, 2, 1], [0, 0, 1], [0, 0, 1, 1, 1], [0, 7, 2], [2, 0, 0], [0, 1, 2], [2],
        ])
        self.assertEqual(found[9:16], [
            [0, 3, 2], [0, 1, 2], [0, 1, 3, 1, 3], [0, 5, 2], [2, 0, 2], [0, 0, 1], [2],
        ])
        self.assertEqual(found[17:24], [
            [0, 0, 1], [0, 0, 1], [0, 0, 1, 1, 1], [0, 3, 2], [2, 0, 2], [-33], [2],
        ])
        self.assertEqual(found[25:], [
            [0, 1, 1], [0, 1, 1], [0, 0, 1, 1, 1], [0, 5, 2], [2, 1, 1], [-2], [1],
        ])


if __name__ == "__main__":
    unittest.main()
