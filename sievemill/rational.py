"""Exact fractions that are not negative: tuples (numerator, denominator) in lowest terms."""


def whole(number):
    return (number, 1)


def common_divisor(left, right):
    while right != 0:
        rest = left % right
        left = right
        right = rest
    return left


# A numerator of 0 has the whole denominator as its divisor, so zero comes out as 0 1.
def lowest_terms(num, den):
    divisor = common_divisor(num, den)
    return (num // divisor, den // divisor)


def plus(left, right):
    return lowest_terms(left[0] * right[1] + right[0] * left[1], left[1] * right[1])


def scaled(fraction, num, den):
    return lowest_terms(fraction[0] * num, fraction[1] * den)


def total(fractions):
    result = whole(0)
    for fraction in fractions:
        result = plus(result, fraction)
    return result


def is_at_least(fraction, bound):
    return fraction[0] * bound[1] >= bound[0] * fraction[1]


def is_too_large(fraction):
    limit = 10 ** 30
    return fraction[0] >= limit or fraction[1] >= limit
