"""Paths through a plan, its stops, and what follows from their probabilities."""

from stopearly.exact import lowest_terms, powers
from stopearly.shapes import ACCEPT, GO_ON


def next_counts(decisions, counts):
    following = [0] * (len(counts) + 1)
    for s, count in enumerate(counts):
        if decisions[s] == GO_ON:
            following[s] += count
            following[s + 1] += count
    return following


def path_counts(rows):
    """Row by row the number of paths to each point."""
    found = [[1]]
    for decisions in rows[:-1]:
        found.append(next_counts(decisions, found[-1]))
    return found


def stops(rows):
    """The stops in their order, each as (n, s, decision, paths)."""
    found = []
    for n, counts in enumerate(path_counts(rows)):
        for s, count in enumerate(counts):
            decision = rows[n][s]
            if decision != GO_ON and count > 0:
                found.append((n, s, decision, count))
    return found


def acceptance(rows, p, divisor):
    horizon = len(rows) - 1
    success = powers(p, horizon)
    failure = powers(divisor - p, horizon)
    scale = powers(divisor, horizon)
    total = 0
    for n, s, decision, count in stops(rows):
        if decision == ACCEPT:
            # The scale brings all stops to the denominator that the horizon has.
            total += count * success[s] * failure[n - s] * scale[horizon - n]
    return lowest_terms(total, scale[horizon])
