"""best_two_stage, against a plain model that tries every two-stage plan."""

import unittest
from fractions import Fraction
from functools import lru_cache

from tests.helper import ask, ask_behind, last, lowest, many_plans, model_chance, model_size

# In each row p0, p1 and the divisor.
PAIRS = [
    (1, 3, 4), (1, 2, 4), (2, 3, 4), (1, 2, 3), (2, 3, 6), (1, 4, 5), (3, 7, 10), (499, 501, 1000),
    (1, 999, 1000), (1, 2, 1000), (998, 999, 1000),
]


def stage_rows(n1, r1, n, r):
    rows = [[0] * (k + 1) for k in range(n + 1)]
    rows[n1][:r1 + 1] = [1] * (r1 + 1)
    rows[n] = [2 if s > r else 1 for s in range(n + 1)]
    return rows


@lru_cache(maxsize=None)
def considered(p0, p1, divisor, most):
    """Every plan in the document's order, with its two errors and its expected size for p0."""
    x0, x1 = Fraction(p0, divisor), Fraction(p1, divisor)
    found = []
    for n in range(2, most + 1):
        for n1 in range(1, n):
            for r1 in range(n1):
                for r in range(r1, n):
                    rows = stage_rows(n1, r1, n, r)
                    error0 = 1 - model_chance(rows, x0, 1)
                    error1 = model_chance(rows, x1, 1)
                    found.append(((n1, r1, n, r), error0, error1, model_size(rows, x0)))
    return found


def model_best(p0, p1, divisor, alpha, alpha_divisor, beta, beta_divisor, most):
    kept = []
    for plan, error0, error1, size in considered(p0, p1, divisor, most):
        if error0 <= Fraction(alpha, alpha_divisor) and error1 <= Fraction(beta, beta_divisor):
            kept.append((plan, size))
    if not kept:
        return [-33]
    # min answers the first one of several.
    plan, size = min(kept, key=lambda one: one[1])
    return list(plan) + [size.numerator, size.denominator]


class Models(unittest.TestCase):
    def check(self, numbers):
        found = ask_behind([("create", 1)], [("best_two_stage",) + one for one in numbers])
        for one, answer in zip(numbers, found):
            self.assertEqual(answer, model_best(*one), one)

    def test_bounds_from_tight_to_loose(self):
        bounds = [(0, 1), (1, 1000), (1, 100), (1, 20), (1, 10), (1, 4), (1, 2), (9, 10), (1, 1)]
        for pair in PAIRS:
            for most in (2, 3, 5, 8):
                self.check([pair + alpha + beta + (most,) for alpha in bounds for beta in bounds])

    def test_every_most(self):
        for pair in PAIRS[:5]:
            self.check([pair + (3, 10, 3, 10, most) for most in range(2, 9)])
            self.check([pair + (1, 1, 1, 1, most) for most in range(2, 9)])

    def test_each_plan_just_keeps_its_own_errors(self):
        # Small divisors: the errors themselves can be handed in as bounds.
        for pair in ((1, 2, 3), (1, 3, 4), (2, 3, 4), (1, 2, 4), (2, 3, 6)):
            for plan, error0, error1, size in considered(*pair, 4):
                numbers = [error0.numerator, error0.denominator, error1.numerator, error1.denominator]
                if max(numbers) <= 1000:
                    self.check([pair + tuple(numbers) + (most,) for most in (plan[2], 8)])

    def test_each_plan_misses_bounds_just_below_its_errors(self):
        for pair in ((1, 3, 4), (2, 3, 4), (1, 2, 3)):
            for plan, error0, error1, size in considered(*pair, 5):
                below0 = -(-error0 * 1000 // 1) - 1
                below1 = -(-error1 * 1000 // 1) - 1
                above0, above1 = below0 + 1, below1 + 1
                self.check([
                    pair + (below0, 1000, above1, 1000, 8), pair + (above0, 1000, below1, 1000, 8),
                    pair + (above0, 1000, above1, 1000, 8),
                ])


class Bounds(unittest.TestCase):
    def ask_for(self, *numbers):
        return last(("create", 1), ("best_two_stage",) + numbers)

    def test_no_plan_keeps_the_bounds(self):
        for numbers in ((0, 1, 1, 1), (1, 1, 0, 1), (0, 1, 0, 1), (1, 1000, 1, 1000)):
            self.assertEqual(self.ask_for(1, 3, 4, *numbers, 8), [-33])

    def test_bound_that_is_kept_just_exactly(self):
        # With r1 = r = 0 one success at once rejects: 1/4 for p0, and 1/4 doesn't for p1.
        self.assertEqual(self.ask_for(1, 3, 4, 1, 4, 1, 4, 2), [1, 0, 2, 0, 5, 4])
        self.assertEqual(self.ask_for(1, 3, 4, 250, 1000, 250, 1000, 2), [1, 0, 2, 0, 5, 4])
        self.assertEqual(self.ask_for(1, 3, 4, 249, 1000, 1, 4, 2), [-33])
        self.assertEqual(self.ask_for(1, 3, 4, 1, 4, 249, 1000, 2), [-33])
        # With r = 1 both are successes: 1/16 for p0, and 7/16 not so for p1.
        self.assertEqual(self.ask_for(1, 3, 4, 1, 16, 7, 16, 2), [1, 0, 2, 1, 5, 4])
        self.assertEqual(self.ask_for(1, 3, 4, 62, 1000, 7, 16, 2), [-33])
        self.assertEqual(self.ask_for(1, 3, 4, 1, 16, 437, 1000, 2), [-33])

    def test_greater_most_finds_what_a_smaller_one_does_not(self):
        # Two of three reject: 10/64 for p0, and 10/64 for p1 don't.
        self.assertEqual(self.ask_for(1, 3, 4, 1, 5, 1, 5, 2), [-33])
        self.assertEqual(self.ask_for(1, 3, 4, 1, 5, 1, 5, 3), [2, 0, 3, 1, 39, 16])

    def test_alpha_is_for_p0_and_beta_for_p1(self):
        self.assertEqual(self.ask_for(1, 3, 4, 1, 16, 1, 2, 2), [1, 0, 2, 1, 5, 4])
        self.assertEqual(self.ask_for(1, 3, 4, 1, 2, 1, 16, 2), [-33])


class EqualSizes(unittest.TestCase):
    def check_first(self, numbers, expected, others):
        """Others keep the bounds and have the same size, but come later in the order."""
        kept = {}
        for plan, error0, error1, size in considered(*numbers[:3], numbers[-1]):
            if error0 <= Fraction(*numbers[3:5]) and error1 <= Fraction(*numbers[5:7]):
                kept[plan] = size
        found = last(("create", 1), ("best_two_stage",) + numbers)
        self.assertEqual(tuple(found[:4]), expected)
        for other in others:
            self.assertEqual(kept[other], Fraction(*found[4:]))
            self.assertLess((expected[2], expected[0]) + expected[1::2], (other[2], other[0]) + other[1::2])

    def test_order_of_r(self):
        self.check_first((1, 3, 4, 1, 1, 1, 1, 2), (1, 0, 2, 0), [(1, 0, 2, 1)])
        self.check_first((1, 3, 4, 1, 1, 1, 1, 8), (1, 0, 2, 0), [(1, 0, 2, 1)])

    def test_order_of_n1(self):
        self.check_first((2, 3, 4, 313, 1000, 131, 500, 8), (2, 0, 4, 2), [(3, 1, 4, 2)])
        self.check_first((2, 3, 4, 63, 1000, 171, 250, 8), (1, 0, 4, 3), [(2, 1, 4, 3)])

    def test_order_of_n_comes_before_that_of_n1(self):
        self.check_first((2, 3, 4, 1, 25, 7, 10, 8), (3, 2, 7, 5), [(2, 1, 8, 6)])
        self.check_first((2, 3, 4, 223, 500, 127, 500, 8), (3, 1, 5, 2), [(1, 0, 7, 2)])
        self.check_first((2, 3, 4, 551, 1000, 2, 25, 8), (3, 0, 7, 3), [(2, 0, 8, 3)])


class PlanOfTheInstance(unittest.TestCase):
    def test_does_not_matter(self):
        asked = ("best_two_stage", 1, 3, 4, 1, 10, 1, 10, 8)
        expected = model_best(*asked[1:])
        self.assertGreater(expected[2], 3)
        for calls in many_plans():
            self.assertEqual(last(*calls, asked), expected)

    def test_horizon_is_no_bound_for_most(self):
        for horizon in (1, 2, 20):
            found = ask(("create", horizon), ("best_two_stage", 2, 3, 4, 1, 25, 7, 10, 8))
            self.assertEqual(found[1][:4], [3, 2, 7, 5])
            self.assertEqual(lowest(*found[1][4:]), Fraction(7, 2))


if __name__ == "__main__":
    unittest.main()
