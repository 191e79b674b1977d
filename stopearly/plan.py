"""The calls on one plan, answered one behind another."""

from stopearly.limits import are_two_bounds, are_two_probabilities, are_two_stages, are_weights
from stopearly.limits import is_horizon, is_probability, is_problem, is_stage_size, is_trial_count
from stopearly.limits import is_within
from stopearly.optimum import Problem, least_cost, optimal_rows, plan_cost
from stopearly.shapes import ACCEPT, GO_ON, REJECT
from stopearly.shapes import curtailed_rows, likelihood_rows, new_rows, single_rows, two_stage_rows
from stopearly.stages import best_two_stage
from stopearly.treatments import successes
from stopearly.walk import decision_chance, expected_size, path_counts, stop_chance, stops
from stopearly.walk import unbiased_estimate

CREATE = 0

NOT_USABLE = -11
NO_POINT = -2
OUTSIDE_RANGE = -22
NO_SUCH = -33


class Instance:
    """The state: the rows of the plan, None until a create succeeds."""

    def __init__(self):
        self.rows = None

    def horizon(self):
        return len(self.rows) - 1

    def has_point(self, n, s):
        return s <= n <= self.horizon()

    def replace_plan(self, rows):
        self.rows = rows
        return [len(stops(rows))]


def answer_create(instance, numbers):
    horizon = numbers[0]
    if not is_horizon(horizon):
        return [OUTSIDE_RANGE]
    instance.rows = new_rows(horizon)
    return [0]


def answer_set_decision(instance, numbers):
    n, s, decision = numbers
    if not instance.has_point(n, s):
        return [NO_POINT]
    least = ACCEPT if n == instance.horizon() else GO_ON
    if not is_within(decision, least, REJECT):
        return [OUTSIDE_RANGE]
    row = instance.rows[n]
    previous = row[s]
    row[s] = decision
    return [previous]


def answer_single(instance, numbers):
    limit = numbers[0]
    horizon = instance.horizon()
    if not is_within(limit, 0, horizon):
        return [OUTSIDE_RANGE]
    return instance.replace_plan(single_rows(horizon, limit))


def answer_likelihood(instance, numbers):
    p0, p1, divisor, low, low_divisor, high, high_divisor = numbers
    if not are_two_probabilities(p0, p1, divisor):
        return [OUTSIDE_RANGE]
    if not are_two_bounds(low, low_divisor, high, high_divisor):
        return [OUTSIDE_RANGE]
    chances = (p0, p1, divisor)
    bounds = (low, low_divisor, high, high_divisor)
    return instance.replace_plan(likelihood_rows(instance.horizon(), chances, bounds))


def answer_two_stage(instance, numbers):
    first, first_limit, limit = numbers
    horizon = instance.horizon()
    if not are_two_stages(horizon, first, first_limit, limit):
        return [OUTSIDE_RANGE]
    return instance.replace_plan(two_stage_rows(horizon, first, first_limit, limit))


def answer_curtail(instance, numbers):
    return instance.replace_plan(curtailed_rows(instance.rows))


def answer_optimal(instance, numbers):
    problem = Problem(numbers)
    if not is_problem(problem):
        return [OUTSIDE_RANGE]
    return instance.replace_plan(optimal_rows(instance.horizon(), problem))


def answer_decision(instance, numbers):
    n, s = numbers
    if not instance.has_point(n, s):
        return [NO_POINT]
    return [instance.rows[n][s]]


def answer_paths(instance, numbers):
    n, s = numbers
    if not instance.has_point(n, s):
        return [NO_POINT]
    return [path_counts(instance.rows)[n][s]]


def answer_stop_count(instance, numbers):
    found = stops(instance.rows)
    accepting = [stop for stop in found if stop[2] == ACCEPT]
    return [len(found), len(accepting), len(found) - len(accepting)]


def answer_acceptance(instance, numbers):
    p, divisor = numbers
    if not is_probability(p, divisor):
        return [OUTSIDE_RANGE]
    return [0] + decision_chance(instance.rows, p, divisor, ACCEPT)


def answer_expected_size(instance, numbers):
    p, divisor = numbers
    if not is_probability(p, divisor):
        return [OUTSIDE_RANGE]
    return [0] + expected_size(instance.rows, p, divisor)


def answer_stop_probability(instance, numbers):
    p, divisor, n = numbers
    if not is_probability(p, divisor):
        return [OUTSIDE_RANGE]
    if n > instance.horizon():
        return [NO_POINT]
    return [0] + stop_chance(instance.rows, p, divisor, n)


def answer_errors(instance, numbers):
    p0, p1, divisor = numbers
    if not are_two_probabilities(p0, p1, divisor):
        return [OUTSIDE_RANGE]
    answer = [0]
    # What isn't accepted is rejected: every plan stops.
    answer.extend(decision_chance(instance.rows, p0, divisor, REJECT))
    answer.extend(decision_chance(instance.rows, p1, divisor, ACCEPT))
    return answer


def answer_plan_cost(instance, numbers):
    problem = Problem(numbers)
    if not is_problem(problem):
        return [OUTSIDE_RANGE]
    return [0] + plan_cost(instance.rows, problem)


def answer_least_cost(instance, numbers):
    problem = Problem(numbers)
    if not is_problem(problem):
        return [OUTSIDE_RANGE]
    return [0] + least_cost(instance.horizon(), problem)


def answer_unbiased(instance, numbers):
    n, s = numbers
    if not instance.has_point(n, s):
        return [NO_POINT]
    estimate = unbiased_estimate(instance.rows, n, s)
    if estimate is None:
        return [NO_SUCH]
    return [0] + estimate


def answer_best_two_stage(instance, numbers):
    p0, p1, divisor, alpha, alpha_divisor, beta, beta_divisor, most = numbers
    if not are_two_probabilities(p0, p1, divisor) or not is_stage_size(most):
        return [OUTSIDE_RANGE]
    if not is_probability(alpha, alpha_divisor) or not is_probability(beta, beta_divisor):
        return [OUTSIDE_RANGE]
    bounds = (alpha, alpha_divisor, beta, beta_divisor)
    best = best_two_stage((p0, p1, divisor), bounds, most)
    if best is None:
        return [NO_SUCH]
    return best


def answer_successes(instance, numbers):
    trials = numbers[0]
    weights = numbers[1:]
    if not is_trial_count(trials) or not are_weights(weights):
        return [OUTSIDE_RANGE]
    return [0] + successes(trials, weights)


def answer_row(instance, numbers):
    n = numbers[0]
    if n > instance.horizon():
        return [NO_POINT]
    return [n + 1] + instance.rows[n]


def answer_summary(instance, numbers):
    return [instance.horizon()]


# How many numbers each call has, and what answers it.
CALLS = {
    0: (1, answer_create),
    1: (3, answer_set_decision),
    2: (1, answer_single),
    3: (7, answer_likelihood),
    4: (3, answer_two_stage),
    5: (0, answer_curtail),
    6: (8, answer_optimal),
    7: (2, answer_decision),
    8: (2, answer_paths),
    9: (0, answer_stop_count),
    10: (2, answer_acceptance),
    11: (2, answer_expected_size),
    12: (3, answer_stop_probability),
    13: (3, answer_errors),
    14: (8, answer_plan_cost),
    15: (8, answer_least_cost),
    16: (2, answer_unbiased),
    17: (8, answer_best_two_stage),
    18: (5, answer_successes),
    19: (1, answer_row),
    20: (0, answer_summary),
}


def answers(calls):
    """For each call, in order, how many numbers are answered, then these numbers."""
    instance = Instance()
    answered = []
    place = 0
    while place < len(calls):
        call = calls[place]
        count, answer_call = CALLS[call]
        begin = place + 1
        place = begin + count
        if call != CREATE and instance.rows is None:
            answer = [NOT_USABLE]
        else:
            answer = answer_call(instance, calls[begin:place])
        answered.append(len(answer))
        answered.extend(answer)
    return answered
