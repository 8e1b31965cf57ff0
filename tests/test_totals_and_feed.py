"""totals and get_feed: what the circuit tells of itself."""

import unittest

from tests.helper import (
    LARGEST, create, get_feed, grind, ground_14, last, load, long_denominators, preview_grind, remove_finer, run,
    set_breakage, set_feed, three, totals,
)


class Totals(unittest.TestCase):
    def test_a_new_circuit(self):
        for class_count in (2, 3, 4, 5):
            self.assertEqual(last(create(class_count), totals()), [0, 0, 1, 0, 1, 0, 1])

    def test_behind_load_grind_and_remove_finer(self):
        begun = [create(2), set_breakage(1, [60, 40]), set_feed([0, 50])]
        results = run(
            *begun, load(), totals(), grind(), totals(), remove_finer(1), totals(), load(), totals(), grind(), grind(),
            totals(), remove_finer(1), totals(),
        )
        self.assertEqual([result for result in results[3:] if len(result) == 7], [
            [0, 50, 1, 0, 1, 50, 1], [1, 50, 1, 0, 1, 50, 1], [1, 50, 1, 30, 1, 20, 1], [1, 100, 1, 30, 1, 70, 1],
            [3, 100, 1, 30, 1, 70, 1], [3, 100, 1, 444, 5, 56, 5],
        ])

    def test_fractions_in_lowest_terms(self):
        begun = [create(2), set_breakage(1, [50, 50]), set_feed([0, 1]), load()]
        steps = [grind(), remove_finer(1), totals()] * 3
        results = run(*begun, *steps)
        self.assertEqual(results[6], [1, 1, 1, 1, 2, 1, 2])
        self.assertEqual(results[9], [2, 1, 1, 3, 4, 1, 4])
        self.assertEqual(results[12], [3, 1, 1, 7, 8, 1, 8])

    def test_the_sum_of_all_classes_is_present(self):
        self.assertEqual(last(*three(), load(), totals()), [0, 7, 1, 0, 1, 7, 1])
        self.assertEqual(last(*three(), load(), grind(), totals()), [1, 7, 1, 0, 1, 7, 1])
        self.assertEqual(last(*three(), load(), grind(), remove_finer(2), totals()), [1, 7, 1, 4, 1, 3, 1])

    def test_loads_and_passes_of_nothing(self):
        self.assertEqual(last(create(2), load(), grind(), grind(), remove_finer(1), totals()), [2, 0, 1, 0, 1, 0, 1])

    def test_the_feed_counts_only_when_loaded(self):
        self.assertEqual(last(*three(), totals()), [0, 0, 1, 0, 1, 0, 1])
        self.assertEqual(last(*three(), load(), set_feed([0, 0, 1]), totals()), [0, 7, 1, 0, 1, 7, 1])

    def test_preview_grind_is_no_pass(self):
        self.assertEqual(last(*three(), load(), preview_grind(12), totals()), [0, 7, 1, 0, 1, 7, 1])

    def test_they_have_no_limit(self):
        den = 2 ** 20 * 25 ** 20
        present = 25 ** 20 + 2 ** 20
        self.assertGreater(den, 10 ** 30)
        begun = long_denominators()
        self.assertEqual(last(*begun, totals()), [41, 2, 1, 2 * den - present, den, present, den])
        self.assertEqual(last(*begun, remove_finer(3), totals()), [41, 2, 1, 2, 1, 0, 1])

    def test_behind_a_refused_grind(self):
        results = run(*ground_14(), totals(), grind(), totals(), grind(), totals())
        wanted = [14, 1, 1, 0, 1, 1, 1]
        self.assertEqual(results[-5:], [wanted, [-75], wanted, [-75], wanted])

    def test_behind_a_refused_load(self):
        results = run(*ground_14(), remove_finer(1), set_feed([1, 100]), totals(), load(), totals())
        num = 99 ** 14
        den = 10 ** 28
        wanted = [14, 1, 1, den - num, den, num, den]
        self.assertEqual(results[-3:], [wanted, [-75], wanted])

    def test_behind_a_refused_remove_finer(self):
        for cut in (0, 3, LARGEST):
            self.assertEqual(last(*three(), load(), grind(), remove_finer(cut), totals()), [1, 7, 1, 0, 1, 7, 1])

    def test_a_second_create(self):
        begun = three() + [load(), grind(), remove_finer(1)]
        self.assertEqual(last(*begun, create(3), totals()), [0, 0, 1, 0, 1, 0, 1])
        self.assertEqual(last(*begun, create(1), totals()), [1, 7, 1, 9, 5, 26, 5])


class GetFeed(unittest.TestCase):
    def test_a_new_feed_is_0(self):
        for class_count in (2, 3, 4, 5):
            self.assertEqual(last(create(class_count), get_feed()), [class_count] + [0] * class_count)

    def test_the_feed_that_was_set(self):
        for feed in ([1, 2], [100, 0, 3], [0, 0, 0, 100], [5, 4, 3, 2, 1]):
            self.assertEqual(last(create(len(feed)), set_feed(feed), get_feed()), [len(feed)] + feed)

    def test_it_is_replaced(self):
        results = run(*three(), get_feed(), set_feed([9, 8, 7]), get_feed(), get_feed())
        self.assertEqual(results[-4:], [[3, 1, 2, 4], [7], [3, 9, 8, 7], [3, 9, 8, 7]])

    def test_a_refused_feed_keeps_the_old_one(self):
        for feed in ([], [1, 2], [1, 2, 3, 4], [101, 0, 0], [LARGEST] * 8):
            self.assertEqual(last(*three(), set_feed(feed), get_feed()), [3, 1, 2, 4])

    def test_loading_and_grinding_keep_it(self):
        self.assertEqual(last(*three(), load(), load(), grind(), remove_finer(2), get_feed()), [3, 1, 2, 4])

    def test_a_second_create(self):
        self.assertEqual(last(*three(), create(2), get_feed()), [2, 0, 0])
        self.assertEqual(last(*three(), create(6), get_feed()), [3, 1, 2, 4])


if __name__ == "__main__":
    unittest.main()
