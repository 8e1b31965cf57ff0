"""Many lists of calls, against a plain model of the document, and the document's requirements."""

import random
import unittest
from fractions import Fraction

from tests.helper import (
    amount_up_to, create, get_amounts, get_breakage, grind, last, load, preview_grind, remove_finer, run,
    set_breakage, set_feed,
)


class Model:
    def __init__(self):
        self.count = None

    def create(self, count):
        if not 2 <= count <= 5:
            return [-22]
        self.count = count
        self.rows = {(i, j): 100 if i == j else 0 for i in range(count) for j in range(i + 1)}
        self.feed = [0] * count
        self.amounts = [Fraction(0)] * count
        return [0]

    def one_pass(self, x):
        return [sum(x[i] * self.rows[i, j] / 100 for i in range(j, self.count)) for j in range(self.count)]

    def told(self, amounts):
        return [self.count] + [part for amount in amounts for part in Fraction(amount).as_integer_ratio()]

    def taken(self, amounts):
        if any(max(Fraction(amount).as_integer_ratio()) >= 10 ** 30 for amount in amounts):
            return [-75]
        self.amounts = amounts
        return self.told(amounts)

    def answer(self, call):
        number = call[0]
        if number == 0:
            return self.create(call[1])
        if self.count is None:
            return [-11]
        if number in (1, 2, 8) and call[1] >= self.count:
            return [-2]
        if number == 6 and not 1 <= call[1] < self.count or number == 9 and call[1] > 12:
            return [-22]
        return getattr(self, "answer_%d" % number)(*call[1:])

    def answer_1(self, size_class, length, *row):
        if length != size_class + 1 or any(number > 100 for number in row) or sum(row) != 100:
            return [-22]
        for j, number in enumerate(row):
            self.rows[size_class, j] = number
        return [0]

    def answer_2(self, size_class):
        return [size_class + 1] + [self.rows[size_class, j] for j in range(size_class + 1)]

    def answer_3(self, length, *feed):
        if length != self.count or any(number > 100 for number in feed):
            return [-22]
        old = sum(self.feed)
        self.feed = list(feed)
        return [old]

    def answer_4(self):
        return self.taken([amount + fed for amount, fed in zip(self.amounts, self.feed)])

    def answer_5(self):
        return self.taken(self.one_pass(self.amounts))

    def answer_6(self, cut):
        undersize = Fraction(sum(self.amounts[:cut]))
        self.amounts = [Fraction(0)] * cut + self.amounts[cut:]
        return [0, *undersize.as_integer_ratio()]

    def answer_7(self):
        return self.told(self.amounts)

    def answer_8(self, size_class):
        return [0, *Fraction(sum(self.amounts[:size_class + 1])).as_integer_ratio()]

    def answer_9(self, passes):
        amounts = self.amounts
        for _ in range(passes):
            amounts = self.one_pass(amounts)
        return self.told(amounts)


def some_row(chance, size_class):
    left = 100
    row = []
    for _ in range(size_class):
        row.append(chance.choice([0, left, chance.randint(0, left)]))
        left -= row[-1]
    return row + [left]


def some_call(chance, numbers):
    number = chance.choice(numbers)
    odd = chance.random() < 0.1
    if number == 1:
        size_class = chance.randint(0, 5)
        row = [chance.randint(0, 101) for _ in range(chance.randint(0, 8))] if odd else some_row(chance, size_class)
        return set_breakage(size_class, row)
    if number == 3:
        return set_feed([chance.randint(0, 101 if odd else 100) for _ in range(chance.choice([2, 3, 4, 5]))])
    if number in (4, 5, 7):
        return [number]
    return [number, chance.randint(0, 13) if number == 9 else chance.randint(0, 5)]


def some_calls(chance):
    # Numbers grow long only where nearly every call grinds.
    numbers = chance.choice([[1, 1, 2, 3, 4, 4, 5, 5, 6, 7, 8, 9], [1, 2, 3, 4, 7, 8, 9] + [4] * 5 + [5] * 40])
    count = chance.randint(2, 5)
    calls = [create(count), set_breakage(count - 1, some_row(chance, count - 1)), set_feed([100] * count)]
    for _ in range(chance.randint(1, 57)):
        calls.append(create(chance.randint(0, 7)) if chance.random() < 0.02 else some_call(chance, numbers))
    return calls


class AgainstTheModel(unittest.TestCase):
    def test_many_lists_of_calls(self):
        chance = random.Random(2)
        seen = set()
        for _ in range(1500):
            calls = some_calls(chance)
            model = Model()
            results = run(*calls)
            for call, result in zip(calls, results):
                self.assertEqual(result, model.answer(call))
                seen.add((call[0], min(result[0], 0)))
        wanted = {(number, 0) for number in range(10)} | {(0, -22), (1, -2), (1, -22), (2, -2), (3, -22), (4, -75)}
        self.assertLessEqual(wanted | {(5, -75), (6, -22), (8, -2), (9, -22)}, seen)


def fractions_of(result):
    return [Fraction(result[1 + 2 * k], result[2 + 2 * k]) for k in range(result[0])]


class Requirements(unittest.TestCase):
    def circuits(self):
        chance = random.Random(3)
        for _ in range(60):
            count = chance.randint(2, 5)
            rows = [set_breakage(k, some_row(chance, k)) for k in range(count)]
            feeds = [[chance.randint(0, 100) for _ in range(count)] for _ in range(2)]
            yield count, [create(count)] + rows, feeds

    def test_a_pass_keeps_the_sum_and_makes_material_finer(self):
        for count, begun, feeds in self.circuits():
            results = run(*begun, set_feed(feeds[0]), load(), grind(), grind(), preview_grind(3))
            lots = [fractions_of(result) for result in results[-4:]]
            for coarser, finer in zip(lots, lots[1:]):
                self.assertEqual(sum(coarser), sum(finer))
                for size_class in range(count):
                    self.assertLessEqual(sum(coarser[:size_class + 1]), sum(finer[:size_class + 1]))

    def test_what_is_loaded_is_removed_or_there(self):
        for count, begun, feeds in self.circuits():
            last_class = count - 1
            results = run(
                *begun, set_feed(feeds[0]), load(), grind(), remove_finer(1), set_feed(feeds[1]), load(), grind(),
                remove_finer(last_class), amount_up_to(last_class),
            )
            parts = [Fraction(result[1], result[2]) for result in (results[-6], results[-2], results[-1])]
            self.assertEqual(sum(parts), sum(feeds[0]) + sum(feeds[1]))

    def test_grinding_is_linear(self):
        for _, begun, feeds in self.circuits():
            lots = [fractions_of(last(*begun, set_feed(feed), load(), grind(), grind())) for feed in feeds]
            both = last(*begun, set_feed(feeds[0]), load(), set_feed(feeds[1]), load(), grind(), grind())
            self.assertEqual(fractions_of(both), [left + right for left, right in zip(*lots)])

    def test_asking_changes_nothing(self):
        for count, begun, feeds in self.circuits():
            begun = begun + [set_feed(feeds[0]), load(), grind()]
            asked = [get_amounts(), amount_up_to(0), preview_grind(5), get_breakage(count - 1)]
            self.assertEqual(last(*begun, *asked, grind()), last(*begun, grind()))


if __name__ == "__main__":
    unittest.main()
