"""set_breakage, get_breakage and set_feed: the matrix and the feed."""

import unittest

from tests.helper import LARGEST, create, get_amounts, get_breakage, last, load, run, set_breakage, set_feed


class SetBreakage(unittest.TestCase):
    def test_a_row_is_replaced(self):
        results = run(create(2), set_breakage(1, [60, 40]), get_breakage(1), set_breakage(1, [1, 99]), get_breakage(1))
        self.assertEqual(results, [[0], [0], [2, 60, 40], [0], [2, 1, 99]])

    def test_each_class_has_a_row_of_its_own(self):
        rows = [[100], [30, 70], [0, 100, 0], [25, 25, 25, 25], [100, 0, 0, 0, 0]]
        calls = [create(5)] + [set_breakage(size_class, rows[size_class]) for size_class in range(5)]
        results = run(*calls, *[get_breakage(size_class) for size_class in range(5)])
        self.assertEqual(results[:6], [[0]] * 6)
        self.assertEqual(results[6:], [[len(row)] + row for row in rows])

    def test_the_last_class_and_the_first_past_it(self):
        for class_count in (2, 3, 4, 5):
            row = [100] + [0] * (class_count - 1)
            self.assertEqual(last(create(class_count), set_breakage(class_count - 1, row)), [0])
            self.assertEqual(last(create(class_count), set_breakage(class_count, row + [0])), [-2])
            self.assertEqual(last(create(class_count), set_breakage(LARGEST, row)), [-2])

    def test_a_missing_class_is_told_ahead_of_a_wrong_row(self):
        for row in ([], [101], [1, 1], [50, 50], [LARGEST] * 8):
            self.assertEqual(last(create(2), set_breakage(2, row)), [-2])

    def test_a_row_has_one_number_for_each_class_down_to_the_finest(self):
        for size_class in range(5):
            for length in range(9):
                row = ([100] + [0] * 7)[:length]
                wanted = [0] if length == size_class + 1 else [-22]
                self.assertEqual(last(create(5), set_breakage(size_class, row)), wanted)

    def test_sums_of_99_100_and_101(self):
        self.assertEqual(last(create(2), set_breakage(1, [59, 40])), [-22])
        self.assertEqual(last(create(2), set_breakage(1, [60, 40])), [0])
        self.assertEqual(last(create(2), set_breakage(1, [61, 40])), [-22])
        self.assertEqual(last(create(2), set_breakage(0, [99])), [-22])
        self.assertEqual(last(create(2), set_breakage(0, [100])), [0])

    def test_numbers_of_100_and_101_and_the_largest(self):
        self.assertEqual(last(create(2), set_breakage(1, [100, 0])), [0])
        self.assertEqual(last(create(2), set_breakage(1, [0, 100])), [0])
        for row in ([101, 0], [0, 101], [100, 100], [LARGEST, 0], [LARGEST, LARGEST], [0, 0]):
            self.assertEqual(last(create(2), set_breakage(1, row)), [-22])
        self.assertEqual(last(create(2), set_breakage(0, [101])), [-22])

    def test_a_refused_row_keeps_the_old_one(self):
        for call in (
            set_breakage(1, [59, 40]), set_breakage(1, [101, 0]), set_breakage(1, []), set_breakage(1, [50, 50, 0]),
            set_breakage(1, [100]), set_breakage(2, [10, 10, 80]),
        ):
            results = run(create(2), set_breakage(1, [60, 40]), call, get_breakage(0), get_breakage(1))
            self.assertEqual(results[3:], [[1, 100], [2, 60, 40]])

    def test_it_leaves_feed_and_amounts(self):
        results = run(create(2), set_feed([3, 4]), load(), set_breakage(1, [60, 40]), get_amounts(), set_feed([0, 0]))
        self.assertEqual(results[4:], [[2, 3, 1, 4, 1], [7]])


class GetBreakage(unittest.TestCase):
    def test_the_last_class_and_the_first_past_it(self):
        for class_count in (2, 3, 4, 5):
            wanted = [class_count] + [0] * (class_count - 1) + [100]
            self.assertEqual(last(create(class_count), get_breakage(class_count - 1)), wanted)
            self.assertEqual(last(create(class_count), get_breakage(class_count)), [-2])
            self.assertEqual(last(create(class_count), get_breakage(LARGEST)), [-2])

    def test_it_changes_nothing(self):
        results = run(create(2), set_breakage(1, [60, 40]), get_breakage(1), get_breakage(2), get_breakage(1))
        self.assertEqual(results[2:], [[2, 60, 40], [-2], [2, 60, 40]])


class SetFeed(unittest.TestCase):
    def test_the_sum_of_the_feed_before_is_answered(self):
        results = run(create(3), set_feed([1, 2, 3]), set_feed([100, 100, 100]), set_feed([0, 0, 0]), set_feed([0, 0, 1]))
        self.assertEqual(results, [[0], [0], [6], [300], [0]])

    def test_the_new_feed_is_what_is_loaded(self):
        self.assertEqual(last(create(2), set_feed([1, 2]), set_feed([5, 0]), load()), [2, 5, 1, 0, 1])

    def test_a_feed_has_one_number_a_class(self):
        for class_count in (2, 3, 4, 5):
            for length in range(9):
                wanted = [0] if length == class_count else [-22]
                self.assertEqual(last(create(class_count), set_feed([1] * length)), wanted)

    def test_numbers_of_100_and_101_and_the_largest(self):
        self.assertEqual(last(create(2), set_feed([100, 100])), [0])
        self.assertEqual(last(create(2), set_feed([0, 0])), [0])
        for feed in ([101, 0], [0, 101], [LARGEST, 0], [0, LARGEST]):
            self.assertEqual(last(create(2), set_feed(feed)), [-22])

    def test_its_sum_may_be_anything(self):
        self.assertEqual(last(create(5), set_feed([100] * 5), set_feed([0] * 5)), [500])

    def test_a_refused_feed_keeps_the_old_one(self):
        for feed in ([], [1], [1, 1, 1], [101, 0], [0] * 8, [LARGEST] * 8):
            results = run(create(2), set_feed([3, 4]), set_feed(feed), load(), set_feed([0, 0]))
            self.assertEqual(results[2:], [[-22], [2, 3, 1, 4, 1], [7]])

    def test_it_leaves_amounts_and_matrix(self):
        results = run(create(2), set_breakage(1, [60, 40]), set_feed([3, 4]), load(), set_feed([1, 1]), get_amounts(),
                      get_breakage(1))
        self.assertEqual(results[5:], [[2, 3, 1, 4, 1], [2, 60, 40]])


if __name__ == "__main__":
    unittest.main()
