"""Paths through a plan, its stops, and what follows from their probabilities."""

from stopearly.exact import lowest_terms, powers
from stopearly.shapes import GO_ON


def next_counts(decisions, counts):
    following = [0] * (len(counts) + 1)
    for s, count in enumerate(counts):
        if decisions[s] == GO_ON:
            following[s] += count
            following[s + 1] += count
    return following


def counts_behind(rows, beginning):
    """Row by row the paths to each point; beginning holds the counts of the first rows."""
    found = list(beginning)
    for decisions in rows[len(beginning) - 1:-1]:
        found.append(next_counts(decisions, found[-1]))
    return found


def path_counts(rows):
    """Row by row the number of paths to each point."""
    return counts_behind(rows, [[1]])


def stops(rows):
    """The stops in their order, each as (n, s, decision, paths)."""
    found = []
    for n, counts in enumerate(path_counts(rows)):
        for s, count in enumerate(counts):
            decision = rows[n][s]
            if decision != GO_ON and count > 0:
                found.append((n, s, decision, count))
    return found


def expected_total(rows, p, divisor, worth):
    """The expected value of worth(n, decision) at the stop, times the divisor to the horizon."""
    horizon = len(rows) - 1
    success = powers(p, horizon)
    failure = powers(divisor - p, horizon)
    scale = powers(divisor, horizon)
    total = 0
    for n, s, decision, count in stops(rows):
        # The scale brings all stops to the denominator that the horizon has.
        total += worth(n, decision) * count * success[s] * failure[n - s] * scale[horizon - n]
    return total


def expected_value(rows, p, divisor, worth):
    horizon = len(rows) - 1
    total = expected_total(rows, p, divisor, worth)
    return lowest_terms(total, powers(divisor, horizon)[horizon])


def decision_chance(rows, p, divisor, wanted):
    return expected_value(rows, p, divisor, lambda n, decision: int(decision == wanted))


def expected_size(rows, p, divisor):
    return expected_value(rows, p, divisor, lambda n, decision: n)


def stop_chance(rows, p, divisor, wanted):
    """The probability that the plan stops after exactly the wanted number of observations."""
    return expected_value(rows, p, divisor, lambda n, decision: int(n == wanted))


def unbiased_estimate(rows, n, s):
    """The estimate at a point, or None where it isn't a stop or no observation came before."""
    count = path_counts(rows)[n][s]
    if n == 0 or rows[n][s] == GO_ON or count == 0:
        return None
    # A stop behind the first observation is reached, so the plan goes on at (0, 0).
    success_first = counts_behind(rows, [[0], [0, 1]])
    return lowest_terms(success_first[n][s], count)
