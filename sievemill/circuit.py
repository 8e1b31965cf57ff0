"""A grinding circuit: its state, and the calls on it with their answers as lists of whole numbers."""

from sievemill.closed import after_rounds, is_steady, oversize_of, steady_amounts, undersize_of
from sievemill.mill import after_pass, after_passes, unbroken_matrix, with_feed
from sievemill.rational import is_at_least, is_too_large, lowest_terms, plus, scaled, total, whole
from sievemill.refusals import BadArgument, NoSuchClass, NoSuchValue, NothingThere, TooLarge


def is_row(numbers, count):
    return len(numbers) == count and max(numbers) <= 100


def flat(fractions):
    numbers = []
    for fraction in fractions:
        numbers.extend(fraction)
    return numbers


def written(amounts):
    return [len(amounts)] + flat(amounts)


class Circuit:
    def __init__(self, class_count):
        if class_count < 2 or class_count > 5:
            raise BadArgument()
        self.class_count = class_count
        self.breakage = unbroken_matrix(class_count)
        self.feed = [0] * class_count
        self.amounts = [whole(0)] * class_count
        self.loaded = whole(0)
        self.removed = whole(0)
        self.pass_count = 0

    def check_size_class(self, size_class):
        if size_class >= self.class_count:
            raise NoSuchClass()

    def check_cut(self, cut):
        if cut < 1 or cut >= self.class_count:
            raise BadArgument()

    # The one place that refuses large numbers, before anything is stored: load and grind go
    # through here ahead of their totals, so that a refusal leaves the whole state as it was.
    def replace_amounts(self, amounts):
        for amount in amounts:
            if is_too_large(amount):
                raise TooLarge()
        self.amounts = amounts

    def checked_steady_amounts(self, cut):
        self.check_cut(cut)
        if not is_steady(self.breakage, cut):
            raise NoSuchValue()
        return steady_amounts(self.breakage, self.feed, cut)

    def set_breakage(self, size_class, percentages):
        self.check_size_class(size_class)
        if not is_row(percentages, size_class + 1) or sum(percentages) != 100:
            raise BadArgument()
        self.breakage[size_class] = list(percentages)
        return [0]

    def get_breakage(self, size_class):
        self.check_size_class(size_class)
        return [size_class + 1] + self.breakage[size_class]

    def set_feed(self, feed):
        if not is_row(feed, self.class_count):
            raise BadArgument()
        old_total = sum(self.feed)
        self.feed = list(feed)
        return [old_total]

    def load(self):
        self.replace_amounts(with_feed(self.amounts, self.feed))
        self.loaded = plus(self.loaded, whole(sum(self.feed)))
        return written(self.amounts)

    def grind(self):
        self.replace_amounts(after_pass(self.breakage, self.amounts))
        self.pass_count = self.pass_count + 1
        return written(self.amounts)

    def remove_finer(self, cut):
        self.check_cut(cut)
        taken = total(undersize_of(self.amounts, cut))
        self.amounts = oversize_of(self.amounts, cut)
        self.removed = plus(self.removed, taken)
        return [0] + flat([taken])

    def get_amounts(self):
        return written(self.amounts)

    def amount_up_to(self, size_class):
        self.check_size_class(size_class)
        return [0] + flat([total(self.amounts[:size_class + 1])])

    def preview_grind(self, passes):
        if passes > 12:
            raise BadArgument()
        return written(after_passes(self.breakage, self.amounts, passes))

    def has_steady_state(self, cut):
        self.check_cut(cut)
        return [1 if is_steady(self.breakage, cut) else 0]

    def steady_input(self, cut):
        return written(self.checked_steady_amounts(cut))

    def steady_product(self, cut):
        ground = after_pass(self.breakage, self.checked_steady_amounts(cut))
        return written(undersize_of(ground, cut))

    def steady_load(self, cut):
        return [0] + flat([total(self.checked_steady_amounts(cut))])

    def load_ratio(self, cut):
        carried = total(self.checked_steady_amounts(cut))
        fed = sum(self.feed)
        if fed == 0:
            raise NothingThere()
        return [0] + flat([scaled(carried, 1, fed)])

    def simulate_rounds(self, cut, rounds):
        self.check_cut(cut)
        if rounds > 12:
            raise BadArgument()
        return [0] + flat(after_rounds(self.breakage, self.feed, cut, rounds))

    def totals(self):
        return [self.pass_count] + flat([self.loaded, self.removed, total(self.amounts)])

    def passes_needed(self, num, den):
        if den < 1 or den > 100 or num > den:
            raise BadArgument()
        present = total(self.amounts)
        if present == whole(0):
            raise NothingThere()
        wanted = scaled(present, num, den)
        ground = self.amounts
        for passes in range(13):
            if is_at_least(ground[0], wanted):
                return [passes]
            ground = after_pass(self.breakage, ground)
        raise NoSuchValue()

    def coarsest_cut(self, num, den):
        if num > 999 or den < 1 or den > 99:
            raise BadArgument()
        bound = lowest_terms(num, den)
        for cut in range(self.class_count - 1, 0, -1):
            if is_steady(self.breakage, cut):
                if is_at_least(bound, total(steady_amounts(self.breakage, self.feed, cut))):
                    return [cut]
        raise NoSuchValue()

    def get_feed(self):
        return [self.class_count] + self.feed
