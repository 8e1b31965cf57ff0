"""has_steady_state, steady_input, steady_product, steady_load and load_ratio."""

import unittest

from tests.helper import (
    LARGEST, create, has_steady_state, last, load, load_ratio, run, set_breakage, set_feed, set_rows, steady_input,
    steady_load, steady_product, three,
)

STEADY_AMOUNTS = (steady_input, steady_product, steady_load, load_ratio)

FOUR_ROWS = [[100], [10, 90], [10, 10, 80], [10, 10, 10, 70]]
FOUR_FEED = [1, 2, 3, 4]


def four(size_class):
    """Four classes, of which the one named isn't broken at all."""
    kept = set_breakage(size_class, [0] * size_class + [100])
    return [create(4)] + set_rows(FOUR_ROWS) + [kept, set_feed(FOUR_FEED)]


class HasSteadyState(unittest.TestCase):
    def of_each_cut(self, begun, class_count):
        results = run(*begun, *[has_steady_state(cut) for cut in range(1, class_count)])
        return results[len(begun):]

    def test_all_classes_from_the_cut_on_are_broken(self):
        self.assertEqual(self.of_each_cut(three(), 3), [[1], [1]])

    def test_a_new_circuit_breaks_nothing(self):
        for class_count in (2, 3, 4, 5):
            self.assertEqual(self.of_each_cut([create(class_count)], class_count), [[0]] * (class_count - 1))

    def test_a_class_of_100_below_at_and_above_the_cut(self):
        self.assertEqual(self.of_each_cut(four(0), 4), [[1], [1], [1]])
        self.assertEqual(self.of_each_cut(four(1), 4), [[0], [1], [1]])
        self.assertEqual(self.of_each_cut(four(2), 4), [[0], [0], [1]])
        self.assertEqual(self.of_each_cut(four(3), 4), [[0], [0], [0]])

    def test_99_hundredths_that_stay_are_enough_and_100_are_too_many(self):
        for row, wanted in (([1, 99], [1]), ([0, 100], [0]), ([100, 0], [1])):
            self.assertEqual(last(create(2), set_breakage(1, row), has_steady_state(1)), wanted)

    def test_only_what_stays_counts(self):
        self.assertEqual(last(create(3), set_rows([[100], [50, 50]])[1], has_steady_state(1)), [0])
        rows = [[100], [50, 50], [100, 0, 0]]
        self.assertEqual(self.of_each_cut([create(3)] + set_rows(rows), 3), [[1], [1]])
        rows = [[100], [50, 50], [0, 100, 0]]
        self.assertEqual(self.of_each_cut([create(3)] + set_rows(rows), 3), [[1], [1]])

    def test_neither_feed_nor_material_counts(self):
        self.assertEqual(last(create(2), set_breakage(1, [60, 40]), has_steady_state(1)), [1])
        self.assertEqual(last(create(2), set_feed([1, 1]), load(), has_steady_state(1)), [0])

    def test_the_edges_of_the_cut(self):
        for class_count in (2, 3, 4, 5):
            for cut in (0, class_count, class_count + 1, LARGEST):
                self.assertEqual(last(create(class_count), has_steady_state(cut)), [-22])
            for cut in (1, class_count - 1):
                self.assertEqual(last(create(class_count), has_steady_state(cut)), [0])


class SteadyInput(unittest.TestCase):
    def test_three_classes(self):
        results = run(*three(), steady_input(1), steady_input(2))
        self.assertEqual(results[-2:], [[3, 1, 1, 52, 3, 16, 1], [3, 1, 1, 2, 1, 16, 1]])

    def test_a_class_of_100_below_the_cut_is_just_fed(self):
        self.assertEqual(last(*four(1), steady_input(2)), [4, 1, 1, 2, 1, 65, 3, 40, 3])
        self.assertEqual(last(*four(2), steady_input(3)), [4, 1, 1, 2, 1, 3, 1, 40, 3])

    def test_classes_that_nothing_of_stays_in(self):
        begun = [create(3)] + set_rows([[100], [100, 0], [0, 100, 0]]) + [set_feed([1, 2, 4])]
        self.assertEqual(last(*begun, steady_input(1)), [3, 1, 1, 6, 1, 4, 1])

    def test_99_hundredths_that_stay(self):
        begun = [create(2), set_breakage(1, [1, 99]), set_feed([0, 1])]
        self.assertEqual(last(*begun, steady_input(1)), [2, 0, 1, 100, 1])

    def test_it_asks_the_feed_and_not_the_material(self):
        wanted = [3, 1, 1, 52, 3, 16, 1]
        self.assertEqual(last(*three(), load(), load(), steady_input(1)), wanted)
        self.assertEqual(last(*three(), load(), set_feed([0, 0, 0]), steady_input(1)), [3] + [0, 1] * 3)


class SteadyProduct(unittest.TestCase):
    def test_three_classes(self):
        results = run(*three(), steady_product(1), steady_product(2))
        self.assertEqual(results[-2:], [[3, 7, 1, 0, 1, 0, 1], [3, 12, 5, 23, 5, 0, 1]])

    def test_a_class_of_100_below_the_cut(self):
        self.assertEqual(last(*four(1), steady_product(2)), [4, 9, 2, 11, 2, 0, 1, 0, 1])

    def test_no_feed(self):
        self.assertEqual(last(*three(), set_feed([0, 0, 0]), steady_product(2)), [3] + [0, 1] * 3)


class SteadyLoad(unittest.TestCase):
    def test_three_classes(self):
        self.assertEqual(run(*three(), steady_load(1), steady_load(2))[-2:], [[0, 103, 3], [0, 19, 1]])

    def test_a_class_of_100_below_the_cut(self):
        self.assertEqual(last(*four(1), steady_load(2)), [0, 38, 1])

    def test_no_feed(self):
        self.assertEqual(last(*three(), set_feed([0, 0, 0]), steady_load(1)), [0, 0, 1])


class LoadRatio(unittest.TestCase):
    def test_three_classes(self):
        self.assertEqual(run(*three(), load_ratio(1), load_ratio(2))[-2:], [[0, 103, 21], [0, 19, 7]])

    def test_lowest_terms(self):
        begun = [create(2), set_breakage(1, [50, 50])]
        self.assertEqual(last(*begun, set_feed([0, 4]), load_ratio(1)), [0, 2, 1])
        self.assertEqual(last(*begun, set_feed([4, 4]), load_ratio(1)), [0, 3, 2])
        self.assertEqual(last(*begun, set_feed([4, 0]), load_ratio(1)), [0, 1, 1])

    def test_no_feed(self):
        self.assertEqual(run(*three(), set_feed([0, 0, 0]), load_ratio(1), load_ratio(2))[-2:], [[-6], [-6]])

    def test_material_is_no_feed(self):
        self.assertEqual(last(*three(), load(), set_feed([0, 0, 0]), load_ratio(1)), [-6])
        self.assertEqual(last(*three(), load_ratio(1)), [0, 103, 21])


class Refusals(unittest.TestCase):
    def test_the_edges_of_the_cut(self):
        for class_count in (2, 3, 4, 5):
            rows = [[100]] + [[1] + [0] * (size_class - 1) + [99] for size_class in range(1, class_count)]
            begun = [create(class_count)] + set_rows(rows) + [set_feed([1] * class_count)]
            for call in STEADY_AMOUNTS:
                for cut in (0, class_count, class_count + 1, LARGEST):
                    self.assertEqual(last(*begun, call(cut)), [-22])
                for cut in (1, class_count - 1):
                    self.assertGreaterEqual(last(*begun, call(cut))[0], 0)
            # Each class from the cut on has 100 rounds of its feed in it.
            self.assertEqual(last(*begun, steady_load(1)), [0, 1 + 100 * (class_count - 1), 1])
            self.assertEqual(last(*begun, steady_load(class_count - 1)), [0, class_count - 1 + 100, 1])

    def test_no_steady_state(self):
        for call in STEADY_AMOUNTS:
            self.assertEqual(last(*four(1), call(1)), [-33])
            self.assertEqual(run(*four(2), call(1), call(2))[-2:], [[-33], [-33]])
            self.assertEqual(run(*four(3), call(1), call(2), call(3))[-3:], [[-33], [-33], [-33]])

    def test_a_wrong_cut_is_told_ahead_of_a_missing_steady_state_and_a_missing_feed(self):
        for call in STEADY_AMOUNTS:
            for cut in (0, 2, LARGEST):
                self.assertEqual(last(create(2), call(cut)), [-22])
                self.assertEqual(last(create(2), set_breakage(1, [60, 40]), call(cut)), [-22])
                self.assertEqual(last(create(2), set_feed([1, 1]), call(cut)), [-22])

    def test_a_missing_steady_state_is_told_ahead_of_a_missing_feed(self):
        for call in STEADY_AMOUNTS:
            self.assertEqual(last(create(2), call(1)), [-33])


if __name__ == "__main__":
    unittest.main()
