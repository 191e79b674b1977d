"""successes: two treatments, against a plain model that looks at every outcome."""

import random
import unittest
from fractions import Fraction
from functools import lru_cache

from tests.helper import ask_behind, fractions_of, last, many_plans


def model_first(trials, weights, treatment):
    """The greatest expected number of successes if this treatment is used first."""
    success, failure = list(weights), list(weights)
    success[2 * treatment] += 1
    failure[2 * treatment + 1] += 1
    a, b = weights[2 * treatment:2 * treatment + 2]
    chance = Fraction(a, a + b)
    gained = 1 + model_value(trials - 1, tuple(success))
    return chance * gained + (1 - chance) * model_value(trials - 1, tuple(failure))


@lru_cache(maxsize=None)
def model_value(trials, weights):
    if trials == 0:
        return Fraction(0)
    return max(model_first(trials, weights, treatment) for treatment in (0, 1))


def model_successes(trials, weights):
    if trials == 0:
        return [Fraction(0)] * 3
    both = [model_first(trials, weights, treatment) for treatment in (0, 1)]
    return [model_value(trials, weights)] + both


def answers_for(numbers):
    return ask_behind([("create", 1)], [("successes", trials) + weights for trials, weights in numbers])


class Models(unittest.TestCase):
    def check(self, numbers):
        for (trials, weights), answer in zip(numbers, answers_for(numbers)):
            expected = model_successes(trials, weights)
            self.assertEqual(fractions_of(answer), expected, (trials, weights))

    def test_small_weights(self):
        numbers = []
        for a in (1, 2, 3):
            for b in (1, 2, 4):
                for c in (1, 3):
                    for d in (1, 2):
                        numbers += [(trials, (a, b, c, d)) for trials in (0, 1, 2, 3, 4)]
        self.check(numbers)

    def test_7_trials(self):
        self.check([(7, weights) for weights in [
            (1, 1, 1, 1), (1, 2, 1, 2), (2, 1, 1, 1), (1, 1, 2, 2), (1, 100, 100, 1), (1, 100, 1, 100),
            (100, 100, 100, 100), (100, 1, 100, 1), (100, 99, 98, 97), (1, 1, 50, 50), (3, 5, 7, 11),
        ]])

    def test_random_weights(self):
        chooser = random.Random(7)
        numbers = []
        for round_number in range(60):
            most = chooser.choice([3, 10, 100])
            weights = tuple(chooser.randint(1, most) for place in range(4))
            numbers.append((chooser.randint(0, 7), weights))
        self.check(numbers)


class Successes(unittest.TestCase):
    def test_without_trials(self):
        for weights in ((1, 1, 1, 1), (100, 1, 1, 100), (100, 100, 100, 100)):
            found = last(("create", 3), ("successes", 0) + weights)
            self.assertEqual(found, [0, 0, 1, 0, 1, 0, 1])

    def test_one_trial_is_the_better_chance(self):
        self.assertEqual(last(("create", 3), ("successes", 1, 1, 2, 3, 1)), [0, 3, 4, 1, 3, 3, 4])
        self.assertEqual(last(("create", 3), ("successes", 1, 3, 1, 1, 2)), [0, 3, 4, 3, 4, 1, 3])
        self.assertEqual(last(("create", 3), ("successes", 1, 2, 2, 50, 50)), [0, 1, 2, 1, 2, 1, 2])

    def test_trying_can_be_worth_more_than_the_better_chance(self):
        # 51/100 each without learning; behind a success of (1, 1) its chance is 2/3.
        value, first, second = fractions_of(last(("create", 3), ("successes", 2, 1, 1, 51, 49)))
        self.assertEqual(first, Fraction(1, 2) * (1 + Fraction(2, 3)) + Fraction(1, 2) * Fraction(51, 100))
        self.assertEqual(value, first)
        self.assertLess(second, first)

    def test_turning_the_treatments_round(self):
        for trials in range(8):
            for a, b, c, d in ((1, 2, 3, 4), (5, 1, 1, 1), (99, 100, 1, 1)):
                found = last(("create", 3), ("successes", trials, a, b, c, d))
                turned = last(("create", 3), ("successes", trials, c, d, a, b))
                self.assertEqual(turned, found[:3] + found[5:] + found[3:5])

    def test_value_is_the_greater_one(self):
        for trials in range(8):
            for weights in ((1, 2, 3, 4), (5, 1, 1, 1), (99, 100, 1, 1), (2, 2, 2, 2)):
                value, first, second = fractions_of(last(("create", 3), ("successes", trials) + weights))
                self.assertEqual(value, max(first, second))

    def test_plan_of_the_instance_does_not_matter(self):
        asked = ("successes", 5, 1, 2, 3, 4)
        expected = last(("create", 1), asked)
        for calls in many_plans():
            self.assertEqual(last(*calls, asked), expected)


if __name__ == "__main__":
    unittest.main()
