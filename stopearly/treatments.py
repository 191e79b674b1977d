"""Two treatments, used so that the expected number of successes is greatest."""

from stopearly.exact import lowest_terms


def histories(used):
    """All (successes, failures, successes, failures) of treatments 0 and 1 in the used trials."""
    found = []
    for used0 in range(used + 1):
        used1 = used - used0
        for s0 in range(used0 + 1):
            found.extend([(s0, used0 - s0, s1, used1 - s1) for s1 in range(used1 + 1)])
    return found


def rests(weight, trials):
    """At each place: the product of the sums of weights from this number of uses on."""
    found = [1]
    for used in range(trials - 1, -1, -1):
        found.insert(0, found[0] * (weight + used))
    return found


class Treatments:
    """The weights at the beginning, and what makes the values whole numbers.

    Behind a history with i uses of treatment 0 and j of treatment 1, values are
    multiplied by rest0[i] * rest1[j].
    """

    def __init__(self, trials, weights):
        a, b, c, d = weights
        self.weights = weights
        self.rest0 = rests(a + b, trials)
        self.rest1 = rests(c + d, trials)

    def next_values(self, history, later):
        """The values if treatment 0 or 1 is used next; later has those of the longer histories."""
        a, b, c, d = self.weights
        s0, f0, s1, f1 = history
        certain0 = self.rest0[s0 + f0 + 1] * self.rest1[s1 + f1]
        value0 = (a + s0) * (certain0 + later[(s0 + 1, f0, s1, f1)])
        value0 += (b + f0) * later[(s0, f0 + 1, s1, f1)]
        certain1 = self.rest0[s0 + f0] * self.rest1[s1 + f1 + 1]
        value1 = (c + s1) * (certain1 + later[(s0, f0, s1 + 1, f1)])
        value1 += (d + f1) * later[(s0, f0, s1, f1 + 1)]
        return (value0, value1)


def first_values(trials, treatments):
    """The values if treatment 0 or 1 is used first, times rest0[0] * rest1[0]."""
    pair = (0, 0)
    later = {}
    for history in histories(trials):
        later[history] = 0
    for used in range(trials - 1, -1, -1):
        best = {}
        for history in histories(used):
            pair = treatments.next_values(history, later)
            best[history] = max(pair)
        later = best
    # The last history above is the empty one.
    return pair


def successes(trials, weights):
    """The three fractions: the value, and those with treatment 0 or 1 used first."""
    treatments = Treatments(trials, weights)
    value0, value1 = first_values(trials, treatments)
    whole = treatments.rest0[0] * treatments.rest1[0]
    answer = lowest_terms(max(value0, value1), whole)
    answer.extend(lowest_terms(value0, whole))
    answer.extend(lowest_terms(value1, whole))
    return answer
