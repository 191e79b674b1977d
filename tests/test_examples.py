"""The session of the document's examples, as far as its calls are written."""

import unittest

from tests.helper import ask, last, plan_behind

SESSION = [
    (("create", 3), [0]),
    (("single", 1), [4]),
    (("acceptance", 1, 2), [0, 1, 2]),
    (("curtail",), [4]),
    (("acceptance", 1, 2), [0, 1, 2]),
    (("paths", 3, 1), [2]),
    (("paths", 3, 0), [0]),
    (("stop_count",), [4, 2, 2]),
    (("likelihood", 1, 2, 4, 1, 2, 4, 1), [4]),
    (("two_stage", 1, 0, 1), [4]),
    (("create", 1), [0]),
    (("optimal", 1, 3, 4, 1, 2, 1, 10, 10), [2]),
    (("set_decision", 1, 0, 0), [-22]),
]


class Examples(unittest.TestCase):
    def test_whole_session(self):
        calls = [call for call, answer in SESSION]
        self.assertEqual(ask(*calls), [answer for call, answer in SESSION])

    def test_each_beginning_of_the_session(self):
        calls = []
        for call, answer in SESSION:
            calls.append(call)
            self.assertEqual(last(*calls), answer, calls)

    def test_row_2_behind_curtail(self):
        rows = plan_behind(3, ("create", 3), ("single", 1), ("curtail",))
        self.assertEqual(rows[2], [1, 0, 2])

    def test_row_3_behind_likelihood(self):
        rows = plan_behind(3, ("create", 3), ("likelihood", 1, 2, 4, 1, 2, 4, 1))
        self.assertEqual(rows[3], [1, 1, 1, 2])


if __name__ == "__main__":
    unittest.main()
