"""A grinding circuit: its state, and the calls on it with their answers as lists of whole numbers."""

from sievemill.mill import after_pass, after_passes, unbroken_matrix
from sievemill.rational import is_too_large, plus, total, whole
from sievemill.refusals import BadArgument, NoSuchClass, TooLarge


def is_row(numbers, count):
    return len(numbers) == count and max(numbers) <= 100


def written(amounts):
    numbers = [len(amounts)]
    for amount in amounts:
        numbers.extend(amount)
    return numbers


class Circuit:
    def __init__(self, class_count):
        if class_count < 2 or class_count > 5:
            raise BadArgument()
        self.class_count = class_count
        self.breakage = unbroken_matrix(class_count)
        self.feed = [0] * class_count
        self.amounts = [whole(0)] * class_count
        self.loaded = whole(0)
        self.removed = whole(0)
        self.pass_count = 0

    def check_size_class(self, size_class):
        if size_class >= self.class_count:
            raise NoSuchClass()

    def check_cut(self, cut):
        if cut < 1 or cut >= self.class_count:
            raise BadArgument()

    # The one place that refuses large numbers, before anything is stored: load and grind go
    # through here ahead of their totals, so that a refusal leaves the whole state as it was.
    def replace_amounts(self, amounts):
        for amount in amounts:
            if is_too_large(amount):
                raise TooLarge()
        self.amounts = amounts

    def set_breakage(self, size_class, percentages):
        self.check_size_class(size_class)
        if not is_row(percentages, size_class + 1) or sum(percentages) != 100:
            raise BadArgument()
        self.breakage[size_class] = list(percentages)
        return [0]

    def get_breakage(self, size_class):
        self.check_size_class(size_class)
        return [size_class + 1] + self.breakage[size_class]

    def set_feed(self, feed):
        if not is_row(feed, self.class_count):
            raise BadArgument()
        old_total = sum(self.feed)
        self.feed = list(feed)
        return [old_total]

    def load(self):
        self.replace_amounts([plus(amount, whole(fed)) for amount, fed in zip(self.amounts, self.feed)])
        self.loaded = plus(self.loaded, whole(sum(self.feed)))
        return written(self.amounts)

    def grind(self):
        self.replace_amounts(after_pass(self.breakage, self.amounts))
        self.pass_count = self.pass_count + 1
        return written(self.amounts)

    def remove_finer(self, cut):
        self.check_cut(cut)
        undersize = total(self.amounts[:cut])
        self.amounts = [whole(0)] * cut + self.amounts[cut:]
        self.removed = plus(self.removed, undersize)
        return [0, undersize[0], undersize[1]]

    def get_amounts(self):
        return written(self.amounts)

    def amount_up_to(self, size_class):
        self.check_size_class(size_class)
        amount = total(self.amounts[:size_class + 1])
        return [0, amount[0], amount[1]]

    def preview_grind(self, passes):
        if passes > 12:
            raise BadArgument()
        return written(after_passes(self.breakage, self.amounts, passes))
