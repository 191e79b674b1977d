"""Exact arithmetic that several parts of the package share."""


def greatest_common_divisor(first, second):
    while second:
        first, second = second, first % second
    return first


def lowest_terms(numerator, denominator):
    """The fraction as two numbers; denominator is positive, numerator not below 0."""
    common = greatest_common_divisor(numerator, denominator)
    return [numerator // common, denominator // common]


def powers(base, most):
    """The powers of base from 0 to most; the first one is 1, also where base is 0."""
    found = [1]
    while len(found) <= most:
        found.append(found[-1] * base)
    return found
