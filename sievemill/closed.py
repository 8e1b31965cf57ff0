"""The closed circuit: the sieve behind the mill, the rounds of the oversize, and the steady state."""

from sievemill.mill import after_pass, arriving, with_feed
from sievemill.rational import plus, scaled, total, whole


def undersize_of(amounts, cut):
    return amounts[:cut] + [whole(0)] * (len(amounts) - cut)


def oversize_of(amounts, cut):
    return [whole(0)] * cut + amounts[cut:]


def is_steady(breakage, cut):
    return all([breakage[size_class][size_class] < 100 for size_class in range(cut, len(breakage))])


# From the coarsest class on, so that all that comes down to a class is known when its turn comes.
# What comes to it anew is just what leaves it in a pass: the hundredths that don't stay.
def steady_amounts(breakage, feed, cut):
    amounts = [whole(fed) for fed in feed]
    for size_class in range(len(feed) - 1, cut - 1, -1):
        anew = plus(amounts[size_class], arriving(breakage, amounts, size_class, size_class + 1))
        amounts[size_class] = scaled(anew, 100, 100 - breakage[size_class][size_class])
    return amounts


def after_rounds(breakage, feed, cut, rounds):
    """The total oversize after the last round, and the total product of all rounds."""
    returned = [whole(0)] * len(feed)
    product = whole(0)
    for done in range(rounds):
        ground = after_pass(breakage, with_feed(returned, feed))
        product = plus(product, total(undersize_of(ground, cut)))
        returned = oversize_of(ground, cut)
    return [total(returned), product]
