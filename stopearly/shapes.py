"""Plans as rows: row n holds the decisions at the points (n, 0) to (n, n)."""

from stopearly.exact import powers

GO_ON = 0
ACCEPT = 1
REJECT = 2


def rows_by(horizon, decide):
    rows = []
    for n in range(horizon + 1):
        rows.append([decide(n, s) for s in range(n + 1)])
    return rows


def last_decision(s, limit):
    return REJECT if s > limit else ACCEPT


def single_rows(horizon, limit):
    def decide(n, s):
        return last_decision(s, limit) if n == horizon else GO_ON

    return rows_by(horizon, decide)


def new_rows(horizon):
    # No point has more successes than the horizon, so this limit rejects nowhere.
    return single_rows(horizon, horizon)


def two_stage_rows(horizon, first, first_limit, limit):
    def decide(n, s):
        if n == horizon:
            return last_decision(s, limit)
        return ACCEPT if n == first and s <= first_limit else GO_ON

    return rows_by(horizon, decide)


def likelihood_rows(horizon, chances, bounds):
    """chances is (p0, p1, divisor); bounds is (low, low_divisor, high, high_divisor)."""
    p0, p1, divisor = chances
    low, low_divisor, high, high_divisor = bounds
    success0 = powers(p0, horizon)
    success1 = powers(p1, horizon)
    failure0 = powers(divisor - p0, horizon)
    failure1 = powers(divisor - p1, horizon)

    def decide(n, s):
        if n == 0:
            return GO_ON
        # Both weights lack the same power of the divisor, so their ratio is right.
        weight0 = success0[s] * failure0[n - s]
        weight1 = success1[s] * failure1[n - s]
        if weight1 * high_divisor >= high * weight0:
            return REJECT
        if weight1 * low_divisor <= low * weight0:
            return ACCEPT
        return ACCEPT if n == horizon else GO_ON

    return rows_by(horizon, decide)


def curtailed_decision(decision, failure, success):
    """failure and success are the curtailed decisions at the two next points."""
    if decision == GO_ON and failure == success:
        return failure
    return decision


def curtailed_rows(rows):
    later = list(rows[-1])
    curtailed = [later]
    for n in range(len(rows) - 2, -1, -1):
        row = []
        for s, decision in enumerate(rows[n]):
            row.append(curtailed_decision(decision, later[s], later[s + 1]))
        curtailed.insert(0, row)
        later = row
    return curtailed
