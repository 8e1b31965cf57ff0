"""Exact fractions that are not negative: tuples (numerator, denominator) in lowest terms."""


def whole(number):
    return (number, 1)


def common_divisor(left, right):
    while right != 0:
        rest = left % right
        left = right
        right = rest
    return left


# A numerator of 0 has the whole denominator as its divisor, so zero comes out as 0 1.
def lowest_terms(num, den):
    divisor = common_divisor(num, den)
    return (num // divisor, den // divisor)


def plus(left, right):
    return lowest_terms(left[0] * right[1] + right[0] * left[1], left[1] * right[1])


def percent_of(fraction, percentage):
    return lowest_terms(fraction[0] * percentage, fraction[1] * 100)


def total(fractions):
    result = whole(0)
    for fraction in fractions:
        result = plus(result, fraction)
    return result


def is_too_large(fraction):
    limit = 10 ** 30
    return fraction[0] >= limit or fraction[1] >= limit
