"""answers: one flat list in, one flat list out, and nothing kept."""

import unittest

from stopearly.plan import answers
from tests.helper import ask, flat, split


class FlatLists(unittest.TestCase):
    def test_counts_stand_before_the_numbers(self):
        self.assertEqual(answers([0, 3]), [1, 0])
        self.assertEqual(answers([0, 3, 2, 1, 9, 10, 1, 2]), [1, 0, 1, 4, 3, 4, 2, 2, 3, 0, 1, 2])

    def test_refusal_is_its_code_alone(self):
        self.assertEqual(answers([9]), [1, -11])
        self.assertEqual(answers([0, 0]), [1, -22])
        self.assertEqual(answers([0, 2, 10, 1, 0, 7, 3, 0, 9]), [1, 0, 1, -22, 1, -2, 3, 3, 3, 0])

    def test_each_call_takes_its_own_numbers(self):
        calls = [
            0, 2,
            1, 1, 1, 2,
            2, 1,
            3, 1, 2, 4, 1, 2, 4, 1,
            4, 1, 0, 1,
            5,
            6, 1, 3, 4, 1, 2, 1, 10, 10,
            7, 0, 0,
            8, 2, 1,
            9,
            10, 1, 2,
            0, 1,
        ]
        expected = [
            [0], [0], [3], [3], [3], [3], [2], [0], [0], [2, 1, 1], [0, 1, 2], [0],
        ]
        self.assertEqual(split(answers(calls)), expected)

    def test_each_refused_call_takes_its_own_numbers_on_a_new_instance(self):
        calls = [
            1, 0, 0, 0,
            2, 0,
            3, 0, 0, 0, 0, 0, 0, 0,
            4, 0, 0, 0,
            5,
            6, 0, 0, 0, 0, 0, 0, 0, 0,
            7, 0, 0,
            8, 0, 0,
            9,
            10, 0, 0,
            0, 1,
            9,
        ]
        self.assertEqual(split(answers(calls)), [[-11]] * 10 + [[0], [2, 2, 0]])

    def test_answer_is_whole_numbers(self):
        found = answers([0, 3, 2, 1, 9, 10, 1, 2, 7, 0, 0, 8, 0, 0, 7, 9, 9])
        self.assertIs(list, type(found))
        for number in found:
            self.assertIs(int, type(number))


class NothingKept(unittest.TestCase):
    CALLS = [
        ("create", 4), ("single", 2), ("set_decision", 1, 1, 2), ("curtail",),
        ("likelihood", 1, 2, 4, 1, 2, 4, 1), ("two_stage", 2, 1, 2),
        ("optimal", 1, 3, 4, 1, 2, 1, 10, 10), ("acceptance", 1, 3),
        ("set_decision", 9, 9, 9), ("single", 99), ("decision", 1, 1), ("paths", 1, 1),
    ]

    def test_list_handed_in_stays_as_it_was(self):
        handed = flat(self.CALLS)
        before = list(handed)
        answers(handed)
        self.assertEqual(handed, before)

    def test_same_list_twice_is_answered_alike(self):
        handed = flat(self.CALLS)
        first = answers(handed)
        second = answers(handed)
        self.assertEqual(first, second)
        self.assertIsNot(first, second)

    def test_two_times_do_not_know_of_one_another(self):
        answers(flat([("create", 3), ("single", 1)]))
        self.assertEqual(answers([9]), [1, -11])
        self.assertEqual(answers([5]), [1, -11])
        answers(flat([("create", 3), ("set_decision", 0, 0, 2)]))
        self.assertEqual(ask(("create", 3), ("decision", 0, 0)), [[0], [0]])

    def test_changing_an_answer_changes_no_later_one(self):
        first = answers([0, 3, 9])
        first.clear()
        self.assertEqual(answers([0, 3, 9]), [1, 0, 3, 4, 4, 0])


class LongLists(unittest.TestCase):
    def test_200_calls_at_horizon_20(self):
        round_of_calls = [
            ("single", 10),
            ("curtail",),
            ("acceptance", 499, 1000),
            ("likelihood", 333, 500, 1000, 1, 19, 19, 1),
            ("acceptance", 1000, 1000),
            ("optimal", 1, 999, 1000, 1, 2, 1, 100000, 100000),
            ("stop_count",),
            ("two_stage", 19, 19, 20),
            ("paths", 20, 20),
        ]
        calls = [("create", 20)] + round_of_calls * 22 + [("stop_count",)]
        self.assertEqual(len(calls), 200)
        found = ask(*calls)
        self.assertEqual(found[0], [0])
        for begin in range(1, 199, len(round_of_calls)):
            self.assertEqual(found[begin:begin + len(round_of_calls)], found[1:10])
        self.assertEqual(found[1], [21])
        self.assertEqual(found[2], [21])
        self.assertEqual(found[5], [0, 0, 1])
        self.assertEqual(found[9], [0])
        self.assertEqual(found[199], [20, 20, 0])

    def test_200_creates(self):
        self.assertEqual(answers([0, 20] * 200), [1, 0] * 200)


if __name__ == "__main__":
    unittest.main()
