"""Calls as lists of numbers, and answers cut back into one list a call."""

from fractions import Fraction

from sievemill.desk import answers

LARGEST = 4294967295

# Three classes whose numbers are easy to follow by hand.
THREE_ROWS = [[100], [30, 70], [5, 20, 75]]
THREE_FEED = [1, 2, 4]


def create(class_count):
    return [0, class_count]


def set_breakage(size_class, percentages):
    return [1, size_class, len(percentages)] + percentages


def get_breakage(size_class):
    return [2, size_class]


def set_feed(feed):
    return [3, len(feed)] + feed


def load():
    return [4]


def grind():
    return [5]


def remove_finer(cut):
    return [6, cut]


def get_amounts():
    return [7]


def amount_up_to(size_class):
    return [8, size_class]


def preview_grind(passes):
    return [9, passes]


def has_steady_state(cut):
    return [10, cut]


def steady_input(cut):
    return [11, cut]


def steady_product(cut):
    return [12, cut]


def steady_load(cut):
    return [13, cut]


def load_ratio(cut):
    return [14, cut]


def simulate_rounds(cut, rounds):
    return [15, cut, rounds]


def totals():
    return [16]


def passes_needed(num, den):
    return [17, num, den]


def coarsest_cut(num, den):
    return [18, num, den]


def get_feed():
    return [19]


def one_list(calls):
    return [number for call in calls for number in call]


def cut_apart(answered):
    results = []
    place = 0
    while place < len(answered):
        behind = place + 1 + answered[place]
        results.append(answered[place + 1:behind])
        place = behind
    assert place == len(answered), "the last answer is shorter than its count"
    return results


def run(*calls):
    """The results of the calls, in one list of calls."""
    assert 1 <= len(calls) <= 60, "not a list of calls that may be handed in"
    results = cut_apart(answers(one_list(calls)))
    assert len(results) == len(calls), "not one answer a call"
    return results


def last(*calls):
    return run(*calls)[-1]


def set_rows(rows):
    return [set_breakage(size_class, row) for size_class, row in enumerate(rows)]


def three():
    """A circuit of the three classes, fed but not loaded."""
    return [create(3)] + set_rows(THREE_ROWS) + [set_feed(THREE_FEED)]


def ground_14():
    """Calls after which class 1 holds (99/100)^14 and class 0 the rest of 1: the denominators are 10^28."""
    return [create(2), set_breakage(1, [1, 99]), set_feed([0, 1]), load()] + [grind()] * 14


def long_denominators():
    """Calls after which class 1 holds 1 / 25 ** 20, class 2 holds 1 / 2 ** 20, and all others hold nothing."""
    calls = [create(4), set_breakage(2, [96, 0, 4]), set_feed([0, 0, 1, 0]), load()] + [grind()] * 20
    calls += [remove_finer(1), set_breakage(2, [0, 100, 0]), grind(), load()]
    return calls + [set_breakage(2, [50, 0, 50])] + [grind()] * 20 + [remove_finer(1)]


def fractions_of(result):
    """The fractions behind the first number of a result."""
    parts = result[1:]
    return [Fraction(num, den) for num, den in zip(parts[::2], parts[1::2])]


def some_row(chance, size_class):
    left = 100
    row = []
    for _ in range(size_class):
        row.append(chance.choice([0, left, chance.randint(0, left)]))
        left -= row[-1]
    return row + [left]
