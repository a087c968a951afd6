"""Exact fractions, told as a numerator and a denominator."""


def greatest_divisor(first, second):
    larger = abs(first)
    smaller = abs(second)
    while smaller != 0:
        rest = larger % smaller
        larger = smaller
        smaller = rest
    return larger


def lowest_terms(numerator, denominator):
    divisor = greatest_divisor(numerator, denominator)
    # The sign belongs to the numerator.
    if denominator < 0:
        divisor = -divisor
    return [numerator // divisor, denominator // divisor]


def added(first, second):
    return lowest_terms(first[0] * second[1] + second[0] * first[1], first[1] * second[1])


def multiplied(first, second):
    return lowest_terms(first[0] * second[0], first[1] * second[1])


def lowest_terms_each(numerators, denominator):
    listed = []
    for numerator in numerators:
        listed.extend(lowest_terms(numerator, denominator))
    return listed
