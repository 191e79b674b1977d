"""answers: one flat list in, one flat list out, and nothing kept."""

import unittest

from stopearly.plan import answers
from tests.helper import ask, flat, split


COMPUTED = [
    ("expected_size", 1, 3), ("stop_probability", 1, 3, 2), ("errors", 1, 2, 3),
    ("plan_cost", 1, 3, 4, 1, 2, 1, 10, 10), ("least_cost", 1, 3, 4, 1, 2, 1, 10, 10),
    ("unbiased", 1, 0), ("best_two_stage", 1, 3, 4, 1, 2, 1, 2, 5), ("successes", 3, 1, 2, 2, 1),
    ("row", 3), ("summary",), ("best_two_stage", 1, 3, 4, 0, 1, 0, 1, 8), ("row", 99),
]


class FlatLists(unittest.TestCase):
    def test_counts_stand_before_the_numbers(self):
        self.assertEqual(answers([0, 3]), [1, 0])
        self.assertEqual(answers([0, 3, 2, 1, 9, 10, 1, 2]), [1, 0, 1, 4, 3, 4, 2, 2, 3, 0, 1, 2])

    def test_refusal_is_its_code_alone(self):
        self.assertEqual(answers([9]), [1, -11])
        self.assertEqual(answers([0, 0]), [1, -22])
        self.assertEqual(answers([0, 2, 10, 1, 0, 7, 3, 0, 9]), [1, 0, 1, -22, 1, -2, 3, 3, 3, 0])

    def test_each_call_takes_its_own_numbers(self):
        calls = [
            0, 2,
            1, 1, 1, 2,
            2, 1,
            3, 1, 2, 4, 1, 2, 4, 1,
            4, 1, 0, 1,
            5,
            6, 1, 3, 4, 1, 2, 1, 10, 10,
            7, 0, 0,
            8, 2, 1,
            9,
            10, 1, 2,
            11, 1, 2,
            12, 1, 2, 1,
            13, 1, 3, 4,
            14, 1, 3, 4, 1, 2, 1, 10, 10,
            15, 1, 3, 4, 1, 2, 1, 10, 10,
            16, 1, 1,
            17, 1, 3, 4, 1, 2, 1, 2, 2,
            18, 1, 1, 1, 2, 1,
            19, 2,
            20,
            0, 1,
        ]
        expected = [
            [0], [0], [3], [3], [3], [3], [2], [0], [0], [2, 1, 1], [0, 1, 2],
            [0, 1, 1], [0, 1, 1], [0, 1, 4, 1, 4], [0, 7, 2], [0, 7, 2], [0, 1, 1],
            [1, 0, 2, 0, 5, 4], [0, 2, 3, 1, 2, 2, 3], [3, 1, 1, 2], [2], [0],
        ]
        self.assertEqual(split(answers(calls)), expected)

    def test_each_refused_call_takes_its_own_numbers_on_a_new_instance(self):
        calls = [
            1, 0, 0, 0,
            2, 0,
            3, 0, 0, 0, 0, 0, 0, 0,
            4, 0, 0, 0,
            5,
            6, 0, 0, 0, 0, 0, 0, 0, 0,
            7, 0, 0,
            8, 0, 0,
            9,
            10, 0, 0,
            11, 0, 0,
            12, 0, 0, 0,
            13, 0, 0, 0,
            14, 0, 0, 0, 0, 0, 0, 0, 0,
            15, 0, 0, 0, 0, 0, 0, 0, 0,
            16, 0, 0,
            17, 0, 0, 0, 0, 0, 0, 0, 0,
            18, 0, 0, 0, 0, 0,
            19, 0,
            20,
            0, 1,
            9,
        ]
        self.assertEqual(split(answers(calls)), [[-11]] * 20 + [[0], [2, 2, 0]])

    def test_answer_is_whole_numbers(self):
        for calls in (self.taken(), self.taken() + [7, 9, 9, 2, 9, 16, 0, 0]):
            found = answers(calls)
            self.assertIs(list, type(found))
            for number in found:
                self.assertIs(int, type(number))

    def taken(self):
        return flat([("create", 3), *NothingKept.CALLS, *COMPUTED])


class NothingKept(unittest.TestCase):
    CALLS = [
        ("create", 4), ("single", 2), ("set_decision", 1, 1, 2), ("curtail",),
        ("likelihood", 1, 2, 4, 1, 2, 4, 1), ("two_stage", 2, 1, 2),
        ("optimal", 1, 3, 4, 1, 2, 1, 10, 10), ("acceptance", 1, 3),
        ("set_decision", 9, 9, 9), ("single", 99), ("decision", 1, 1), ("paths", 1, 1),
    ] + COMPUTED

    def test_list_handed_in_stays_as_it_was(self):
        handed = flat(self.CALLS)
        before = list(handed)
        answers(handed)
        self.assertEqual(handed, before)

    def test_same_list_twice_is_answered_alike(self):
        handed = flat(self.CALLS)
        first = answers(handed)
        second = answers(handed)
        self.assertEqual(first, second)
        self.assertIsNot(first, second)

    def test_two_times_do_not_know_of_one_another(self):
        answers(flat([("create", 3), ("single", 1)]))
        self.assertEqual(answers([9]), [1, -11])
        self.assertEqual(answers([5]), [1, -11])
        self.assertEqual(answers([20]), [1, -11])
        answers(flat([("create", 3), ("set_decision", 0, 0, 2)]))
        self.assertEqual(ask(("create", 3), ("decision", 0, 0)), [[0], [0]])

    def test_changing_an_answer_changes_no_later_one(self):
        first = answers([0, 3, 9])
        first.clear()
        self.assertEqual(answers([0, 3, 9]), [1, 0, 3, 4, 4, 0])


class LongLists(unittest.TestCase):
    def test_200_calls_at_horizon_20(self):
        round_of_calls = [
            ("single", 10),
            ("curtail",),
            ("acceptance", 499, 1000),
            ("likelihood", 333, 500, 1000, 1, 19, 19, 1),
            ("acceptance", 1000, 1000),
            ("optimal", 1, 999, 1000, 1, 2, 1, 100000, 100000),
            ("stop_count",),
            ("two_stage", 19, 19, 20),
            ("paths", 20, 20),
        ]
        calls = [("create", 20)] + round_of_calls * 22 + [("stop_count",)]
        self.assertEqual(len(calls), 200)
        found = ask(*calls)
        self.assertEqual(found[0], [0])
        for begin in range(1, 199, len(round_of_calls)):
            self.assertEqual(found[begin:begin + len(round_of_calls)], found[1:10])
        self.assertEqual(found[1], [21])
        self.assertEqual(found[2], [21])
        self.assertEqual(found[5], [0, 0, 1])
        self.assertEqual(found[9], [0])
        self.assertEqual(found[199], [20, 20, 0])

    def check_200(self, plan, *round_of_calls):
        """Behind the plan as often as 200 calls hold them, the calls answer alike each time."""
        calls = list(plan)
        while len(calls) < 200:
            calls.extend(round_of_calls)
        found = ask(*calls[:200])[len(plan):]
        for place, answer in enumerate(found):
            self.assertEqual(answer, found[place % len(round_of_calls)])
        return found[:len(round_of_calls)]

    def test_200_calls_that_compute_at_horizon_20(self):
        plan = [("create", 20), ("likelihood", 499, 501, 1000, 1, 1000, 1000, 1)]
        problem = (499, 501, 1000, 499, 1000, 1000, 100000, 99999)
        found = self.check_200(
            plan, ("expected_size", 499, 1000), ("stop_probability", 501, 1000, 20),
            ("errors", 499, 501, 1000), ("plan_cost",) + problem, ("least_cost",) + problem,
            ("unbiased", 20, 10), ("row", 20), ("summary",),
        )
        self.assertEqual(found[0], [0, 20, 1])
        self.assertEqual(found[1], [0, 1, 1])
        self.assertEqual(found[5], [0, 1, 2])
        self.assertEqual(found[7], [20])

    def test_200_searches_for_two_stages(self):
        plan = [("create", 20)]
        one = ("best_two_stage", 499, 500, 1000, 1000, 1000, 0, 1, 8)
        self.assertEqual(self.check_200(plan, one), [[-33]])
        other = ("best_two_stage", 1, 999, 1000, 1, 1000, 1, 1000, 8)
        self.assertEqual(self.check_200(plan, other), [[1, 0, 2, 0, 1001, 1000]])
        third = ("best_two_stage", 2, 3, 4, 42, 125, 151, 1000, 8)
        self.assertEqual(self.check_200(plan, one, third), [[-33], [2, 0, 8, 4, 13, 2]])

    def test_200_times_7_trials(self):
        found = self.check_200([("create", 20)], ("successes", 7, 100, 99, 98, 97))
        self.assertEqual(len(found[0]), 7)
        self.assertEqual(found[0][:3], [0] + found[0][-2:])

    def test_200_creates(self):
        self.assertEqual(answers([0, 20] * 200), [1, 0] * 200)


if __name__ == "__main__":
    unittest.main()
