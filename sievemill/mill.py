"""The mill: a breakage matrix and what its passes make of amounts."""

from sievemill.rational import percent_of, total


# Until a row is set, a class stays as it is in every pass.
def unbroken_matrix(class_count):
    return [[0] * size_class + [100] for size_class in range(class_count)]


def arriving(breakage, amounts, fine):
    return total([percent_of(amounts[coarse], breakage[coarse][fine]) for coarse in range(fine, len(amounts))])


def after_pass(breakage, amounts):
    return [arriving(breakage, amounts, fine) for fine in range(len(amounts))]


def after_passes(breakage, amounts, passes):
    ground = list(amounts)
    for done in range(passes):
        ground = after_pass(breakage, ground)
    return ground
