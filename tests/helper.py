"""What the tests share: calls by name, answers one by one, and a plain model of a plan."""

import random
import unittest
from fractions import Fraction
from itertools import product

from stopearly.plan import answers

CALLS = {
    "create": 0,
    "set_decision": 1,
    "single": 2,
    "likelihood": 3,
    "two_stage": 4,
    "curtail": 5,
    "optimal": 6,
    "decision": 7,
    "paths": 8,
    "stop_count": 9,
    "acceptance": 10,
    "expected_size": 11,
    "stop_probability": 12,
    "errors": 13,
    "plan_cost": 14,
    "least_cost": 15,
    "unbiased": 16,
    "best_two_stage": 17,
    "successes": 18,
    "row": 19,
    "summary": 20,
}

# The greatest number that can be handed in.
GREATEST = 4294967295

# The document's words: no request has more calls.
MOST_CALLS = 200


def flat(calls):
    numbers = []
    for name, *arguments in calls:
        numbers.append(CALLS[name])
        numbers.extend(arguments)
    return numbers


def split(answered):
    parts = []
    place = 0
    while place < len(answered):
        end = place + 1 + answered[place]
        parts.append(answered[place + 1:end])
        assert len(parts[-1]) == answered[place] > 0
        place = end
    return parts


def ask(*calls):
    """What each of the calls on a new instance answers."""
    assert len(calls) <= MOST_CALLS
    parts = split(answers(flat(calls)))
    assert len(parts) == len(calls)
    return parts


def last(*calls):
    return ask(*calls)[-1]


def points(horizon):
    return [(n, s) for n in range(horizon + 1) for s in range(n + 1)]


def ask_behind(calls, asked):
    """What each of the asked calls answers behind the calls, in as many requests as it takes.

    None of the asked calls is to change the plan.
    """
    found = []
    most = MOST_CALLS - len(calls)
    for begin in range(0, len(asked), most):
        found += ask(*calls, *asked[begin:begin + most])[len(calls):]
    return found


def at_points(name, horizon, calls):
    """What decision or paths answers behind the calls, row by row."""
    rows = [[] for n in range(horizon + 1)]
    found = ask_behind(calls, [(name, n, s) for n, s in points(horizon)])
    for (n, s), answer in zip(points(horizon), found):
        assert len(answer) == 1
        rows[n].append(answer[0])
    return rows


def plan_behind(horizon, *calls):
    return at_points("decision", horizon, calls)


def paths_behind(horizon, *calls):
    return at_points("paths", horizon, calls)


def setting(rows):
    """The calls that make this plan on a new instance."""
    calls = [("create", len(rows) - 1)]
    for n, row in enumerate(rows):
        for s, decision in enumerate(row):
            calls.append(("set_decision", n, s, decision))
    return calls


def changing(rows):
    """As setting, but only where create made another decision: fewer calls at great horizons."""
    horizon = len(rows) - 1
    calls = [("create", horizon)]
    for n, row in enumerate(rows):
        for s, decision in enumerate(row):
            if decision != int(n == horizon):
                calls.append(("set_decision", n, s, decision))
    return calls


def random_plan(horizon, seed, share):
    """A plan that stops at about one of share points before the horizon."""
    chooser = random.Random(seed)
    rows = []
    for n in range(horizon):
        rows.append([chooser.choice([1, 2] + [0] * 2 * (share - 1)) for s in range(n + 1)])
    rows.append([chooser.choice([1, 2]) for s in range(horizon + 1)])
    return rows


def many_plans():
    """The calls that make plans: by each call that makes one, and point by point."""
    plans = []
    for horizon in (1, 2, 3, 6, 20):
        made = [[("create", horizon)]]
        for limit in sorted({0, 1, horizon // 2, horizon}):
            made.append([("create", horizon), ("single", limit)])
        for numbers in ((1, 2, 4, 1, 2, 4, 1), (1, 3, 4, 1, 9, 9, 1), (499, 501, 1000, 1, 2, 1, 1)):
            made.append([("create", horizon), ("likelihood",) + numbers])
        for cost, loss0, loss1 in ((1, 100, 100), (0, 10, 30), (2, 100000, 70), (1000, 10, 0)):
            problem = (1, 3, 4, 2, 5, cost, loss0, loss1)
            made.append([("create", horizon), ("optimal",) + problem])
        if horizon > 1:
            made.append([("create", horizon), ("two_stage", 1, 0, 1)])
            made.append([("create", horizon), ("two_stage", horizon - 1, 1, horizon // 2)])
            made.append([("create", horizon), ("two_stage", (horizon + 1) // 2, 1, 0)])
        for seed in range(4):
            made.append(changing(random_plan(horizon, seed, 4 + seed % 2 * 8)))
        plans += made + [calls + [("curtail",)] for calls in made]
    return plans


def all_plans(horizon):
    """Every plan with this horizon."""
    places = points(horizon)
    choices = [(1, 2) if n == horizon else (0, 1, 2) for n, s in places]
    for decisions in product(*choices):
        rows = [[] for n in range(horizon + 1)]
        for (n, s), decision in zip(places, decisions):
            rows[n].append(decision)
        yield rows


def model_paths(rows):
    """The paths, by trying every sequence of outcomes up to the horizon."""
    horizon = len(rows) - 1
    counts = [[0] * (n + 1) for n in range(horizon + 1)]
    for n in range(horizon + 1):
        for outcomes in product((0, 1), repeat=n):
            before = [rows[k][sum(outcomes[:k])] for k in range(n)]
            if not any(before):
                counts[n][sum(outcomes)] += 1
    return counts


def model_expected(rows, x, worth):
    """The expected value of worth(n, s, decision) where the plan stops, backwards from the horizon."""
    later = []
    for n in reversed(range(len(rows))):
        here = []
        for s, decision in enumerate(rows[n]):
            if decision:
                here.append(Fraction(worth(n, s, decision)))
            else:
                here.append(x * later[s + 1] + (1 - x) * later[s])
        later = here
    return later[0]


def model_chance(rows, x, wanted):
    """The probability that the plan ends with the decision."""
    return model_expected(rows, x, lambda n, s, decision: decision == wanted)


def model_size(rows, x):
    """The expected number of observations."""
    return model_expected(rows, x, lambda n, s, decision: n)


def model_cost(rows, problem):
    """The expected cost of a plan for a problem."""
    p0, p1, divisor, prior, prior_divisor, cost, loss0, loss1 = problem
    x0, x1 = Fraction(p0, divisor), Fraction(p1, divisor)
    chance1 = Fraction(prior, prior_divisor)
    cost0 = cost * model_size(rows, x0) + loss0 * model_chance(rows, x0, 2)
    cost1 = cost * model_size(rows, x1) + loss1 * model_chance(rows, x1, 1)
    return (1 - chance1) * cost0 + chance1 * cost1


def fractions_of(answer):
    """The fractions that an answer tells behind its 0, each in lowest terms."""
    assert answer[0] == 0 and len(answer) % 2 == 1, answer
    found = []
    for place in range(1, len(answer), 2):
        found.append(lowest(*answer[place:place + 2]))
    return found


def lowest(numerator, denominator):
    """The fraction, which is to be in lowest terms with a positive denominator."""
    fraction = Fraction(numerator, denominator)
    assert (fraction.numerator, fraction.denominator) == (numerator, denominator)
    return fraction


def fraction_of(answer):
    """The fraction that an answer (0, numerator, denominator) tells, in lowest terms."""
    fraction, = fractions_of(answer)
    return fraction


# A plan that no operation makes, so that one replaced by mistake is seen.
PLAN = [[0], [0, 2], [1, 0, 0], [2, 1, 2, 1]]


class RangeCase(unittest.TestCase):
    def check_refused(self, code, *calls, rows=PLAN):
        """Each call is refused, and leaves the plan as it was."""
        reads = [("decision", n, s) for n, s in points(len(rows) - 1)]
        decisions = [[decision] for row in rows for decision in row]
        for call in calls:
            with self.subTest(call=call):
                found = ask(*setting(rows), call, *reads)
                self.assertEqual(found[len(setting(rows))], [code])
                self.assertEqual(found[len(setting(rows)) + 1:], decisions)

    def check_taken(self, *calls, rows=PLAN):
        """Each call is answered, with no code."""
        for call in calls:
            with self.subTest(call=call):
                found = last(*setting(rows), call)
                self.assertGreaterEqual(min(found), 0)

    def check_greatest_at_each_place(self, call, code):
        """The greatest number that can be handed in, at each place of a good call."""
        self.check_taken(call)
        for place in range(1, len(call)):
            wrong = list(call)
            wrong[place] = GREATEST
            self.check_refused(code, tuple(wrong))
