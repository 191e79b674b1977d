"""The best two-stage plan that keeps two error bounds."""

from stopearly.exact import lowest_terms, powers


def next_weights(weights, success, failure):
    following = [0] * (len(weights) + 1)
    for s, weight in enumerate(weights):
        following[s] += weight * failure
        following[s + 1] += weight * success
    return following


def success_weights(p, divisor, most):
    """Row n holds for each s the probability of s successes, times the divisor to the n."""
    rows = [[1]]
    while len(rows) <= most:
        rows.append(next_weights(rows[-1], p, divisor - p))
    return rows


def rejecting(weights, plan):
    """The probability that the plan (n1, r1, n, r) rejects, times the divisor to the n."""
    n1, r1, n, r = plan
    total = 0
    for s in range(r1 + 1, n1 + 1):
        still_needed = max(r + 1 - s, 0)
        total += weights[n1][s] * sum(weights[n - n1][still_needed:])
    return total


class Search:
    """chances is (p0, p1, divisor); bounds is (alpha, alpha_divisor, beta, beta_divisor)."""

    def __init__(self, chances, bounds, most):
        p0, p1, divisor = chances
        self.bounds = bounds
        self.most = most
        self.scale = powers(divisor, most)
        self.weights0 = success_weights(p0, divisor, most)
        self.weights1 = success_weights(p1, divisor, most)

    def keeps_bounds(self, plan):
        alpha, alpha_divisor, beta, beta_divisor = self.bounds
        whole = self.scale[plan[2]]
        error0 = rejecting(self.weights0, plan)
        if error0 * alpha_divisor > alpha * whole:
            return False
        error1 = whole - rejecting(self.weights1, plan)
        return error1 * beta_divisor <= beta * whole

    def first_kept(self, stage):
        """The first plan of this stage that keeps the bounds, or None."""
        n1, r1, n = stage
        for r in range(r1, n):
            plan = (n1, r1, n, r)
            if self.keeps_bounds(plan):
                return plan
        return None

    def size(self, stage):
        """The expected size for p0, times the divisor to the most."""
        n1, r1, n = stage
        stopping = sum(self.weights0[n1][:r1 + 1])
        total = n1 * stopping + n * (self.scale[n1] - stopping)
        return total * self.scale[self.most - n1]


def first_stages(most):
    """All (n1, r1, n), in the order of n, then of n1 and r1."""
    found = []
    for n in range(2, most + 1):
        for n1 in range(1, n):
            found.extend([(n1, r1, n) for r1 in range(n1)])
    return found


def best_two_stage(chances, bounds, most):
    """The plan's four numbers and its expected size for p0, or None if no plan keeps the bounds."""
    search = Search(chances, bounds, most)
    best = None
    least = 0
    for stage in first_stages(most):
        size = search.size(stage)
        # The limit r doesn't change the size, and of equal sizes the first one stays.
        if best is None or size < least:
            plan = search.first_kept(stage)
            if plan is not None:
                best = plan
                least = size
    if best is None:
        return None
    return list(best) + lowest_terms(least, search.scale[most])
