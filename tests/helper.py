"""What the tests share: calls by name, answers one by one, and a plain model of a plan."""

from fractions import Fraction
from itertools import product

from stopearly.plan import answers

CALLS = {
    "create": 0,
    "set_decision": 1,
    "single": 2,
    "likelihood": 3,
    "two_stage": 4,
    "curtail": 5,
    "optimal": 6,
    "decision": 7,
    "paths": 8,
    "stop_count": 9,
    "acceptance": 10,
}

# The document's words: no request has more calls.
MOST_CALLS = 200


def flat(calls):
    numbers = []
    for name, *arguments in calls:
        numbers.append(CALLS[name])
        numbers.extend(arguments)
    return numbers


def split(answered):
    parts = []
    place = 0
    while place < len(answered):
        end = place + 1 + answered[place]
        parts.append(answered[place + 1:end])
        assert len(parts[-1]) == answered[place] > 0
        place = end
    return parts


def ask(*calls):
    """What each of the calls on a new instance answers."""
    assert len(calls) <= MOST_CALLS
    parts = split(answers(flat(calls)))
    assert len(parts) == len(calls)
    return parts


def last(*calls):
    return ask(*calls)[-1]


def points(horizon):
    return [(n, s) for n in range(horizon + 1) for s in range(n + 1)]


def at_points(name, horizon, calls):
    """What decision or paths answers behind the calls, row by row."""
    rows = [[] for n in range(horizon + 1)]
    rest = points(horizon)
    most = MOST_CALLS - len(calls)
    while rest:
        asked, rest = rest[:most], rest[most:]
        found = ask(*calls, *[(name, n, s) for n, s in asked])[len(calls):]
        for (n, s), answer in zip(asked, found):
            assert len(answer) == 1
            rows[n].append(answer[0])
    return rows


def plan_behind(horizon, *calls):
    return at_points("decision", horizon, calls)


def paths_behind(horizon, *calls):
    return at_points("paths", horizon, calls)


def setting(rows):
    """The calls that make this plan on a new instance."""
    calls = [("create", len(rows) - 1)]
    for n, row in enumerate(rows):
        for s, decision in enumerate(row):
            calls.append(("set_decision", n, s, decision))
    return calls


def all_plans(horizon):
    """Every plan with this horizon."""
    places = points(horizon)
    choices = [(1, 2) if n == horizon else (0, 1, 2) for n, s in places]
    for decisions in product(*choices):
        rows = [[] for n in range(horizon + 1)]
        for (n, s), decision in zip(places, decisions):
            rows[n].append(decision)
        yield rows


def model_paths(rows):
    """The paths, by trying every sequence of outcomes up to the horizon."""
    horizon = len(rows) - 1
    counts = [[0] * (n + 1) for n in range(horizon + 1)]
    for n in range(horizon + 1):
        for outcomes in product((0, 1), repeat=n):
            before = [rows[k][sum(outcomes[:k])] for k in range(n)]
            if not any(before):
                counts[n][sum(outcomes)] += 1
    return counts


def model_chance(rows, x, decision, n=0, s=0):
    """The probability that the plan, followed from a point on, ends with the decision."""
    here = rows[n][s]
    if here:
        return Fraction(int(here == decision))
    success = model_chance(rows, x, decision, n + 1, s + 1)
    failure = model_chance(rows, x, decision, n + 1, s)
    return x * success + (1 - x) * failure


def model_size(rows, x, n=0, s=0):
    """The expected number of observations, followed from a point on."""
    if rows[n][s]:
        return Fraction(n)
    return x * model_size(rows, x, n + 1, s + 1) + (1 - x) * model_size(rows, x, n + 1, s)


def model_cost(rows, problem):
    """The expected cost of a plan for a problem."""
    p0, p1, divisor, prior, prior_divisor, cost, loss0, loss1 = problem
    x0, x1 = Fraction(p0, divisor), Fraction(p1, divisor)
    chance1 = Fraction(prior, prior_divisor)
    cost0 = cost * model_size(rows, x0) + loss0 * model_chance(rows, x0, 2)
    cost1 = cost * model_size(rows, x1) + loss1 * model_chance(rows, x1, 1)
    return (1 - chance1) * cost0 + chance1 * cost1


def fraction_of(answer):
    """The fraction that an answer (0, numerator, denominator) tells, in lowest terms."""
    zero, numerator, denominator = answer
    fraction = Fraction(numerator, denominator)
    assert [zero, fraction.numerator, fraction.denominator] == answer
    return fraction
