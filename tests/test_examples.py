"""The session of the document's examples, whole."""

import unittest

from tests.helper import ask, last

SESSION = [
    (("create", 3), [0]),
    (("single", 1), [4]),
    (("acceptance", 1, 2), [0, 1, 2]),
    (("expected_size", 1, 2), [0, 3, 1]),
    (("curtail",), [4]),
    (("expected_size", 1, 2), [0, 5, 2]),
    (("acceptance", 1, 2), [0, 1, 2]),
    (("paths", 3, 1), [2]),
    (("paths", 3, 0), [0]),
    (("row", 2), [3, 1, 0, 2]),
    (("stop_count",), [4, 2, 2]),
    (("stop_probability", 1, 2, 2), [0, 1, 2]),
    (("errors", 1, 2, 3), [0, 7, 27, 7, 27]),
    (("unbiased", 2, 0), [0, 0, 1]),
    (("unbiased", 3, 1), [0, 1, 2]),
    (("unbiased", 3, 3), [-33]),
    (("likelihood", 1, 2, 4, 1, 2, 4, 1), [4]),
    (("row", 3), [4, 1, 1, 1, 2]),
    (("two_stage", 1, 0, 1), [4]),
    (("expected_size", 1, 2), [0, 2, 1]),
    (("best_two_stage", 1, 3, 4, 1, 2, 1, 2, 2), [1, 0, 2, 0, 5, 4]),
    (("successes", 1, 1, 1, 2, 1), [0, 2, 3, 1, 2, 2, 3]),
    (("create", 1), [0]),
    (("least_cost", 1, 3, 4, 1, 2, 1, 10, 10), [0, 7, 2]),
    (("optimal", 1, 3, 4, 1, 2, 1, 10, 10), [2]),
    (("plan_cost", 1, 3, 4, 1, 2, 1, 10, 10), [0, 7, 2]),
    (("set_decision", 1, 0, 0), [-22]),
]


class Examples(unittest.TestCase):
    def test_whole_session(self):
        calls = [call for call, answer in SESSION]
        self.assertEqual(ask(*calls), [answer for call, answer in SESSION])

    def test_each_beginning_of_the_session(self):
        calls = []
        for call, answer in SESSION:
            calls.append(call)
            self.assertEqual(last(*calls), answer, calls)


if __name__ == "__main__":
    unittest.main()
