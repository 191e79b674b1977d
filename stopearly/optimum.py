"""The problem of two success probabilities: what plans cost, and the optimal plan."""

from stopearly.exact import lowest_terms, powers
from stopearly.shapes import ACCEPT, GO_ON, REJECT
from stopearly.walk import expected_total


class Problem:
    """The numbers of a problem, in the order in which the calls have them."""

    def __init__(self, numbers):
        p0, p1, divisor, prior, prior_divisor, cost, loss0, loss1 = numbers
        self.p0 = p0
        self.p1 = p1
        self.divisor = divisor
        self.prior = prior
        self.prior_divisor = prior_divisor
        self.cost = cost
        self.loss0 = loss0
        self.loss1 = loss1


def joint_weights(horizon, prior, p, divisor):
    """Row by row the joint probabilities, times what makes all of them whole numbers.

    The factor is the same at every point: the divisor of the prior times the
    divisor raised to the horizon.
    """
    success = powers(p, horizon)
    failure = powers(divisor - p, horizon)
    scale = powers(divisor, horizon)
    weights = []
    for n in range(horizon + 1):
        common = prior * scale[horizon - n]
        weights.append([common * success[s] * failure[n - s] for s in range(n + 1)])
    return weights


def stopping(accepting, rejecting):
    """The cheaper way to stop, as (decision, cost)."""
    if accepting <= rejecting:
        return (ACCEPT, accepting)
    return (REJECT, rejecting)


def best_row(problem, weights0, weights1, later):
    """The best decisions of a row and their costs, as a list of (decision, cost).

    later is what this answered for the next row, and empty at the horizon.
    """
    best = []
    for s, weight0 in enumerate(weights0):
        weight1 = weights1[s]
        choice = stopping(problem.loss1 * weight1, problem.loss0 * weight0)
        if later:
            going_on = problem.cost * (weight0 + weight1) + later[s][1] + later[s + 1][1]
            if going_on < choice[1]:
                choice = (GO_ON, going_on)
        best.append(choice)
    return best


def best_rows(horizon, problem):
    prior0 = problem.prior_divisor - problem.prior
    weights0 = joint_weights(horizon, prior0, problem.p0, problem.divisor)
    weights1 = joint_weights(horizon, problem.prior, problem.p1, problem.divisor)
    later = []
    rows = []
    for n in range(horizon, -1, -1):
        later = best_row(problem, weights0[n], weights1[n], later)
        rows.insert(0, later)
    return rows


def optimal_rows(horizon, problem):
    rows = []
    for best in best_rows(horizon, problem):
        rows.append([choice[0] for choice in best])
    return rows


def cost_scale(horizon, problem):
    """What every cost is multiplied by here, so that all of them are whole numbers."""
    return problem.prior_divisor * powers(problem.divisor, horizon)[horizon]


def least_cost(horizon, problem):
    cost = best_rows(horizon, problem)[0][0][1]
    return lowest_terms(cost, cost_scale(horizon, problem))


def plan_cost(rows, problem):
    def worth0(n, decision):
        return problem.cost * n + (problem.loss0 if decision == REJECT else 0)

    def worth1(n, decision):
        return problem.cost * n + (problem.loss1 if decision == ACCEPT else 0)

    prior0 = problem.prior_divisor - problem.prior
    total = prior0 * expected_total(rows, problem.p0, problem.divisor, worth0)
    total += problem.prior * expected_total(rows, problem.p1, problem.divisor, worth1)
    return lowest_terms(total, cost_scale(len(rows) - 1, problem))
