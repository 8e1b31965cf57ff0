"""The mill: a breakage matrix and what its passes make of amounts."""

from sievemill.rational import plus, scaled, total, whole


# Until a row is set, a class stays as it is in every pass.
def unbroken_matrix(class_count):
    return [[0] * size_class + [100] for size_class in range(class_count)]


def with_feed(amounts, feed):
    return [plus(amount, whole(fed)) for amount, fed in zip(amounts, feed)]


def arriving(breakage, amounts, fine, first):
    """What one pass makes of class `fine` out of the class `first` and the coarser ones."""
    return total([scaled(amounts[coarse], breakage[coarse][fine], 100) for coarse in range(first, len(amounts))])


def after_pass(breakage, amounts):
    return [arriving(breakage, amounts, fine, fine) for fine in range(len(amounts))]


def after_passes(breakage, amounts, passes):
    ground = list(amounts)
    for done in range(passes):
        ground = after_pass(breakage, ground)
    return ground
