"""Calls as lists of numbers, and answers cut back into one list a call."""

from sievemill.desk import answers

LARGEST = 4294967295


def create(class_count):
    return [0, class_count]


def set_breakage(size_class, percentages):
    return [1, size_class, len(percentages)] + percentages


def get_breakage(size_class):
    return [2, size_class]


def set_feed(feed):
    return [3, len(feed)] + feed


def load():
    return [4]


def grind():
    return [5]


def remove_finer(cut):
    return [6, cut]


def get_amounts():
    return [7]


def amount_up_to(size_class):
    return [8, size_class]


def preview_grind(passes):
    return [9, passes]


def one_list(calls):
    return [number for call in calls for number in call]


def cut_apart(answered):
    results = []
    place = 0
    while place < len(answered):
        behind = place + 1 + answered[place]
        results.append(answered[place + 1:behind])
        place = behind
    assert place == len(answered), "the last answer is shorter than its count"
    return results


def run(*calls):
    """The results of the calls, in one list of calls."""
    assert 1 <= len(calls) <= 60, "not a list of calls that may be handed in"
    results = cut_apart(answers(one_list(calls)))
    assert len(results) == len(calls), "not one answer a call"
    return results


def last(*calls):
    return run(*calls)[-1]
