"""Many lists of calls, against a plain model of the document."""

import random
import unittest
from fractions import Fraction

from tests.helper import create, run, set_breakage, set_feed, some_row

# By the number of the call: the codes it can be refused with on a circuit.
CODES = {
    0: [-22], 1: [-2, -22], 2: [-2], 3: [-22], 4: [-75], 5: [-75], 6: [-22], 7: [], 8: [-2], 9: [-22], 10: [-22],
    11: [-22, -33], 12: [-22, -33], 13: [-22, -33], 14: [-22, -33, -6], 15: [-22], 16: [], 17: [-22, -6, -33],
    18: [-22, -33], 19: [],
}


def told(*fractions):
    return [part for fraction in fractions for part in Fraction(fraction).as_integer_ratio()]


def solved(matrix, right):
    """Gauss and Jordan, with any row that will do as the next one."""
    rows = [list(row) + [value] for row, value in zip(matrix, right)]
    for column in range(len(rows)):
        at = next(k for k in range(column, len(rows)) if rows[k][column] != 0)
        rows[column], rows[at] = rows[at], rows[column]
        rows[column] = [value / rows[column][column] for value in rows[column]]
        for k in range(len(rows)):
            if k != column:
                rows[k] = [value - rows[k][column] * lead for value, lead in zip(rows[k], rows[column])]
    return [row[-1] for row in rows]


class Refused(Exception):
    pass


class Model:
    def __init__(self):
        self.count = None

    def answer(self, call):
        try:
            if call[0] != 0 and self.count is None:
                raise Refused(-11)
            return getattr(self, "answer_%d" % call[0])(*call[1:])
        except Refused as refused:
            return [refused.args[0]]

    def one_pass(self, x):
        return [sum(x[i] * self.rows[i, j] / 100 for i in range(j, self.count)) for j in range(self.count)]

    def written(self, amounts):
        return [self.count] + told(*amounts)

    def taken(self, amounts):
        if max(told(*amounts)) >= 10 ** 30:
            raise Refused(-75)
        self.amounts = amounts

    def check(self, holds, code):
        if not holds:
            raise Refused(code)

    def check_cut(self, cut):
        self.check(cut in range(1, self.count), -22)

    def steady(self, cut):
        return not any(self.rows[i, i] == 100 for i in range(cut, self.count))

    def entering(self, cut):
        matrix = [[Fraction(int(i == j)) for i in range(self.count)] for j in range(self.count)]
        for j in range(cut, self.count):
            for i in range(j, self.count):
                matrix[j][i] -= Fraction(self.rows[i, j], 100)
        return solved(matrix, self.feed)

    def checked_entering(self, cut):
        self.check_cut(cut)
        self.check(self.steady(cut), -33)
        return self.entering(cut)

    def answer_0(self, count):
        self.check(count in (2, 3, 4, 5), -22)
        self.count = count
        self.rows = {(i, j): 100 if i == j else 0 for i in range(count) for j in range(i + 1)}
        self.feed = [0] * count
        self.amounts = [Fraction(0)] * count
        self.loaded = self.removed = Fraction(0)
        self.passes = 0
        return [0]

    def answer_1(self, size_class, length, *row):
        self.check(size_class < self.count, -2)
        self.check(length == size_class + 1 and all(number <= 100 for number in row) and sum(row) == 100, -22)
        for j, number in enumerate(row):
            self.rows[size_class, j] = number
        return [0]

    def answer_2(self, size_class):
        self.check(size_class < self.count, -2)
        return [size_class + 1] + [self.rows[size_class, j] for j in range(size_class + 1)]

    def answer_3(self, length, *feed):
        self.check(length == self.count and all(number <= 100 for number in feed), -22)
        old = sum(self.feed)
        self.feed = list(feed)
        return [old]

    def answer_4(self):
        self.taken([amount + fed for amount, fed in zip(self.amounts, self.feed)])
        self.loaded += sum(self.feed)
        return self.written(self.amounts)

    def answer_5(self):
        self.taken(self.one_pass(self.amounts))
        self.passes += 1
        return self.written(self.amounts)

    def answer_6(self, cut):
        self.check_cut(cut)
        undersize = sum(self.amounts[:cut])
        self.amounts = [Fraction(0)] * cut + self.amounts[cut:]
        self.removed += undersize
        return [0] + told(undersize)

    def answer_7(self):
        return self.written(self.amounts)

    def answer_8(self, size_class):
        self.check(size_class < self.count, -2)
        return [0] + told(sum(self.amounts[:size_class + 1]))

    def answer_9(self, passes):
        self.check(passes <= 12, -22)
        amounts = self.amounts
        for _ in range(passes):
            amounts = self.one_pass(amounts)
        return self.written(amounts)

    def answer_10(self, cut):
        self.check_cut(cut)
        return [int(self.steady(cut))]

    def answer_11(self, cut):
        return self.written(self.checked_entering(cut))

    def answer_12(self, cut):
        ground = self.one_pass(self.checked_entering(cut))
        return self.written([amount if j < cut else 0 for j, amount in enumerate(ground)])

    def answer_13(self, cut):
        return [0] + told(sum(self.checked_entering(cut)))

    def answer_14(self, cut):
        entering = self.checked_entering(cut)
        self.check(any(self.feed), -6)
        return [0] + told(Fraction(sum(entering), sum(self.feed)))

    def answer_15(self, cut, rounds):
        self.check_cut(cut)
        self.check(rounds <= 12, -22)
        mill = [Fraction(0)] * self.count
        product = 0
        for _ in range(rounds):
            mill = self.one_pass([amount + fed for amount, fed in zip(mill, self.feed)])
            for j in range(cut):
                product += mill[j]
                mill[j] = Fraction(0)
        return [0] + told(sum(mill), product)

    def answer_16(self):
        return [self.passes] + told(self.loaded, self.removed, sum(self.amounts))

    def answer_17(self, num, den):
        self.check(1 <= den <= 100 and num <= den, -22)
        self.check(any(self.amounts), -6)
        lots = [self.amounts]
        for _ in range(12):
            lots.append(self.one_pass(lots[-1]))
        enough = [passes for passes, lot in enumerate(lots) if lot[0] / sum(lot) >= Fraction(num, den)]
        self.check(enough, -33)
        return enough[:1]

    def answer_18(self, num, den):
        self.check(num <= 999 and 1 <= den <= 99, -22)
        steady = [cut for cut in range(1, self.count) if self.steady(cut)]
        low = [cut for cut in steady if sum(self.entering(cut)) <= Fraction(num, den)]
        self.check(low, -33)
        return [max(low)]

    def answer_19(self):
        return [self.count] + self.feed


def some_call(chance, numbers):
    number = chance.choice(numbers)
    odd = chance.random() < 0.1
    if number == 1:
        size_class = chance.randint(0, 5)
        row = [chance.randint(0, 101) for _ in range(chance.randint(0, 8))] if odd else some_row(chance, size_class)
        return set_breakage(size_class, row)
    if number == 3:
        highest = chance.choice([0, 9, 101 if odd else 100])
        return set_feed([chance.randint(0, highest) for _ in range(chance.choice([2, 3, 4, 5]))])
    if number == 15:
        return [15, chance.randint(0, 5), chance.randint(0, 13)]
    if number == 17:
        den = chance.choice([1, 2, 10, chance.randint(0, 101)])
        return [17, chance.randint(0, den + odd), den]
    if number == 18:
        return [18, chance.choice([999, 1000, chance.randint(0, 999)]), chance.choice([1, 2, chance.randint(0, 100)])]
    if number in (4, 5, 7, 16, 19):
        return [number]
    return [number, chance.randint(0, 13) if number == 9 else chance.randint(0, 5)]


def some_calls(chance):
    # Numbers grow long only where nearly every call grinds.
    numbers = chance.choice([
        [1, 1] + list(range(1, 20)), [1, 3] + list(range(10, 20)), list(range(1, 20)) + [4] * 5 + [5] * 60,
    ])
    count = chance.randint(2, 5)
    calls = [create(count)]
    if chance.random() < 0.9:
        calls += [set_breakage(size_class, some_row(chance, size_class)) for size_class in range(1, count)]
        calls += [set_feed([100] * count)]
    if chance.random() < 0.05:
        calls = []
    for _ in range(chance.randint(1, 60 - len(calls))):
        calls.append(create(chance.randint(0, 7)) if chance.random() < 0.02 else some_call(chance, numbers))
    return calls


class AgainstTheModel(unittest.TestCase):
    def test_many_lists_of_calls(self):
        chance = random.Random(2)
        seen = set()
        for _ in range(1500):
            calls = some_calls(chance)
            model = Model()
            results = run(*calls)
            for call, result in zip(calls, results):
                self.assertEqual(result, model.answer(call), call)
                seen.add((call[0], min(result[0], 0)))
        wanted = {(number, code) for number in CODES for code in CODES[number] + [0] + [-11] * (number > 0)}
        self.assertEqual(seen, wanted)


if __name__ == "__main__":
    unittest.main()
