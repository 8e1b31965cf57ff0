"""passes_needed and coarsest_cut: the smallest number of passes and the largest cut."""

import unittest

from tests.helper import (
    LARGEST, coarsest_cut, create, get_amounts, grind, last, load, passes_needed, preview_grind, remove_finer, run,
    set_breakage, set_feed, set_rows, steady_load, three,
)


def loaded(row, feed):
    return [create(2), set_breakage(1, row), set_feed(feed), load()]


HALVES = loaded([50, 50], [0, 1])
NINE_TENTHS = loaded([10, 90], [0, 1])


class PassesNeeded(unittest.TestCase):
    def test_halves(self):
        wanted = (((1, 100), 1), ((1, 2), 1), ((51, 100), 2), ((3, 4), 2), ((76, 100), 3), ((99, 100), 7))
        for part, passes in wanted:
            self.assertEqual(last(*HALVES, passes_needed(*part)), [passes])

    def test_the_part_need_not_be_in_lowest_terms(self):
        for part in ((2, 4), (50, 100), (1, 2)):
            self.assertEqual(last(*HALVES, passes_needed(*part)), [1])

    def test_the_part_is_of_the_total_of_all_classes(self):
        begun = three() + [load()]
        # Of 7 in all, class 0 has 1, then 9/5, then 261/100.
        self.assertEqual(last(*begun, passes_needed(1, 7)), [0])
        self.assertEqual(last(*begun, passes_needed(9, 35)), [1])
        self.assertEqual(last(*begun, passes_needed(26, 100)), [2])

    def test_it_is_what_preview_grind_tells(self):
        begun = three() + [load(), load(), grind()]
        for num in range(0, 101, 5):
            enough = [
                passes for passes in range(13)
                for amounts in [last(*begun, preview_grind(passes))]
                if amounts[1] * 100 >= num * 14 * amounts[2]
            ]
            wanted = enough[:1] if enough else [-33]
            self.assertEqual(last(*begun, passes_needed(num, 100)), wanted)

    def test_0_passes(self):
        self.assertEqual(last(*HALVES, passes_needed(0, 1)), [0])
        self.assertEqual(last(*HALVES, passes_needed(0, 100)), [0])
        self.assertEqual(last(*loaded([50, 50], [1, 1]), passes_needed(1, 2)), [0])
        self.assertEqual(last(*loaded([50, 50], [1, 1]), passes_needed(51, 100)), [1])
        self.assertEqual(last(*loaded([50, 50], [1, 0]), passes_needed(1, 1)), [0])

    def test_12_passes_and_12_that_are_not_enough(self):
        # 1 - 0.9 ** 11 is 0.686.. and 1 - 0.9 ** 12 is 0.717..
        for num, wanted in ((68, [11]), (69, [12]), (71, [12]), (72, [-33])):
            self.assertEqual(last(*NINE_TENTHS, passes_needed(num, 100)), wanted)

    def test_what_is_never_broken_is_never_enough(self):
        self.assertEqual(last(create(2), set_feed([1, 1]), load(), passes_needed(51, 100)), [-33])
        self.assertEqual(last(create(2), set_feed([0, 1]), load(), passes_needed(1, 100)), [-33])

    def test_all_of_it(self):
        self.assertEqual(last(*HALVES, passes_needed(1, 1)), [-33])
        self.assertEqual(last(*HALVES, passes_needed(100, 100)), [-33])
        self.assertEqual(last(*loaded([100, 0], [0, 1]), passes_needed(100, 100)), [1])
        rows = [[100]] + [[0] * (k - 1) + [100, 0] for k in range(1, 5)]
        begun = [create(5)] + set_rows(rows) + [set_feed([1] * 5), load()]
        self.assertEqual(last(*begun, passes_needed(1, 1)), [4])
        self.assertEqual(last(*begun, passes_needed(4, 5)), [3])

    def test_the_edges_of_num_and_den(self):
        for part in ((0, 0), (1, 0), (0, 101), (50, 101), (101, 101), (2, 1), (51, 50), (101, 100), (LARGEST, 100)):
            self.assertEqual(last(*HALVES, passes_needed(*part)), [-22])
        self.assertEqual(last(*HALVES, passes_needed(0, LARGEST)), [-22])
        self.assertEqual(last(*HALVES, passes_needed(LARGEST, LARGEST)), [-22])
        self.assertEqual(last(*HALVES, passes_needed(50, 100)), [1])
        self.assertEqual(last(*loaded([100, 0], [0, 1]), passes_needed(1, 1)), [1])

    def test_no_material(self):
        self.assertEqual(last(create(2), passes_needed(1, 2)), [-6])
        self.assertEqual(last(create(2), passes_needed(0, 1)), [-6])
        self.assertEqual(last(create(2), set_feed([1, 1]), passes_needed(1, 2)), [-6])
        self.assertEqual(last(create(2), set_feed([0, 0]), load(), passes_needed(1, 2)), [-6])
        emptied = loaded([100, 0], [1, 1]) + [grind(), remove_finer(1)]
        self.assertEqual(last(*emptied, passes_needed(1, 2)), [-6])

    def test_material_in_a_coarse_class_alone_is_material(self):
        self.assertEqual(last(create(2), set_feed([0, 1]), load(), set_feed([0, 0]), passes_needed(0, 1)), [0])

    def test_wrong_arguments_are_told_ahead_of_missing_material(self):
        for part in ((0, 0), (0, 101), (2, 1), (101, 100), (LARGEST, LARGEST)):
            self.assertEqual(last(create(2), passes_needed(*part)), [-22])

    def test_missing_material_is_told_ahead_of_too_few_passes(self):
        self.assertEqual(last(create(2), set_feed([0, 1]), passes_needed(1, 1)), [-6])
        self.assertEqual(last(create(2), passes_needed(1, 100)), [-6])

    def test_it_knows_no_limit_of_the_numbers(self):
        begun = loaded([1, 99], [0, 1]) + [grind()] * 14
        # 1 - 0.99 ** 14 is 0.131.., 1 - 0.99 ** 25 is 0.2221.., 1 - 0.99 ** 26 is 0.2299..
        for num, wanted in ((13, [0]), (14, [2]), (22, [11]), (23, [-33])):
            self.assertEqual(last(*begun, passes_needed(num, 100)), wanted)

    def test_it_grinds_nothing(self):
        self.assertEqual(last(*HALVES, passes_needed(99, 100), get_amounts()), [2, 0, 1, 1, 1])
        self.assertEqual(last(*HALVES, passes_needed(1, 1), get_amounts()), [2, 0, 1, 1, 1])


class CoarsestCut(unittest.TestCase):
    def test_the_coarsest_of_several_that_fit(self):
        # The steady loads are 103/3 for cut 1 and 19 for cut 2.
        self.assertEqual(last(*three(), coarsest_cut(999, 1)), [2])
        self.assertEqual(last(*three(), coarsest_cut(103, 3)), [2])
        rows = [[100]] + [[50] + [0] * (k - 1) + [50] for k in range(1, 5)]
        begun = [create(5)] + set_rows(rows) + [set_feed([1] * 5)]
        self.assertEqual(last(*begun, coarsest_cut(9, 1)), [4])

    def test_the_coarsest_alone_fits(self):
        self.assertEqual(last(*three(), coarsest_cut(34, 1)), [2])
        self.assertEqual(last(*three(), coarsest_cut(20, 1)), [2])

    def test_a_load_of_just_num_by_den(self):
        self.assertEqual(last(*three(), coarsest_cut(19, 1)), [2])
        self.assertEqual(last(*three(), coarsest_cut(190, 10)), [2])
        self.assertEqual(last(*three(), coarsest_cut(189, 10)), [-33])
        thirds = [create(2), set_breakage(1, [60, 40]), set_feed([0, 50])]
        self.assertEqual(last(*thirds, steady_load(1)), [0, 250, 3])
        self.assertEqual(last(*thirds, coarsest_cut(250, 3)), [1])
        self.assertEqual(last(*thirds, coarsest_cut(249, 3)), [-33])
        self.assertEqual(last(*thirds, coarsest_cut(750, 9)), [1])

    def test_none_fits(self):
        self.assertEqual(last(*three(), coarsest_cut(18, 1)), [-33])
        self.assertEqual(last(*three(), coarsest_cut(0, 1)), [-33])
        self.assertEqual(last(*three(), coarsest_cut(999, 99)), [-33])

    def test_none_has_a_steady_state(self):
        for class_count in (2, 3, 4, 5):
            self.assertEqual(last(create(class_count), coarsest_cut(999, 1)), [-33])
        begun = [create(3)] + set_rows([[100], [50, 50]]) + [set_feed([1, 1, 0])]
        self.assertEqual(last(*begun, coarsest_cut(999, 1)), [-33])

    def test_a_class_of_100_below_the_coarsest_cut(self):
        begun = [create(3), set_breakage(2, [50, 0, 50]), set_feed([1, 1, 1])]
        self.assertEqual(last(*begun, coarsest_cut(4, 1)), [2])
        self.assertEqual(last(*begun, coarsest_cut(3, 1)), [-33])

    def test_no_feed(self):
        begun = three() + [set_feed([0, 0, 0])]
        self.assertEqual(last(*begun, coarsest_cut(0, 1)), [2])
        self.assertEqual(last(*begun, coarsest_cut(0, 99)), [2])
        self.assertEqual(last(create(3), coarsest_cut(0, 1)), [-33])

    def test_num_of_999_and_1000(self):
        begun = [create(2), set_breakage(1, [10, 90])]
        self.assertEqual(last(*begun, set_feed([99, 90]), coarsest_cut(999, 1)), [1])
        self.assertEqual(last(*begun, set_feed([99, 90]), coarsest_cut(998, 1)), [-33])
        self.assertEqual(last(*begun, set_feed([100, 90]), coarsest_cut(999, 1)), [-33])
        self.assertEqual(last(*begun, set_feed([100, 90]), coarsest_cut(1000, 1)), [-22])

    def test_den_of_0_and_99_and_100(self):
        begun = [create(2), set_breakage(1, [99, 1]), set_feed([1, 9])]
        self.assertEqual(last(*begun, coarsest_cut(999, 0)), [-22])
        self.assertEqual(last(*begun, coarsest_cut(999, 99)), [1])
        self.assertEqual(last(*begun, coarsest_cut(998, 99)), [-33])
        self.assertEqual(last(*begun, coarsest_cut(999, 100)), [-22])

    def test_wrong_arguments_are_told_ahead_of_a_missing_cut(self):
        for num, den in ((1000, 1), (1, 0), (1, 100), (1000, 0), (1000, 100), (LARGEST, 1), (1, LARGEST), (0, 0)):
            self.assertEqual(last(create(2), coarsest_cut(num, den)), [-22])
            self.assertEqual(last(*three(), coarsest_cut(num, den)), [-22])

    def test_it_asks_the_feed_and_not_the_material(self):
        self.assertEqual(last(*three(), load(), load(), coarsest_cut(19, 1)), [2])
        self.assertEqual(last(*three(), load(), set_feed([0, 0, 0]), coarsest_cut(0, 1)), [2])


if __name__ == "__main__":
    unittest.main()
