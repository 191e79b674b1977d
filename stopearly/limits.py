"""The ranges of the arguments."""

MOST_HORIZON = 20
MOST_DIVISOR = 1000
MOST_BOUND = 1000000
MOST_COST = 1000
MOST_LOSS = 100000
LEAST_STAGES = 2
MOST_STAGES = 8
MOST_TRIALS = 7
MOST_WEIGHT = 100


def is_within(number, least, greatest):
    return least <= number <= greatest


def is_horizon(number):
    return is_within(number, 1, MOST_HORIZON)


def is_divisor(number):
    return is_within(number, 1, MOST_DIVISOR)


def is_probability(p, divisor):
    return is_divisor(divisor) and is_within(p, 0, divisor)


def are_two_probabilities(p0, p1, divisor):
    return is_divisor(divisor) and 1 <= p0 < p1 < divisor


def is_bound(number, divisor):
    return is_divisor(divisor) and is_within(number, 0, MOST_BOUND)


def are_two_bounds(low, low_divisor, high, high_divisor):
    if not is_bound(low, low_divisor) or not is_bound(high, high_divisor):
        return False
    return low * high_divisor < high * low_divisor


def are_two_stages(horizon, first, first_limit, limit):
    if not is_within(first, 1, horizon - 1):
        return False
    return is_within(first_limit, 0, first) and is_within(limit, 0, horizon)


def is_problem(problem):
    if not are_two_probabilities(problem.p0, problem.p1, problem.divisor):
        return False
    if not is_probability(problem.prior, problem.prior_divisor):
        return False
    if not is_within(problem.cost, 0, MOST_COST):
        return False
    return is_within(problem.loss0, 0, MOST_LOSS) and is_within(problem.loss1, 0, MOST_LOSS)


def is_stage_size(number):
    return is_within(number, LEAST_STAGES, MOST_STAGES)


def is_trial_count(number):
    return is_within(number, 0, MOST_TRIALS)


def are_weights(numbers):
    return all([is_within(number, 1, MOST_WEIGHT) for number in numbers])
