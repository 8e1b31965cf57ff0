"""simulate_rounds: the closed circuit, round by round."""

import unittest

from tests.helper import (
    LARGEST, create, get_amounts, grind, last, load, remove_finer, run, set_breakage, set_feed, simulate_rounds, three,
    totals,
)


class SimulateRounds(unittest.TestCase):
    def test_the_first_rounds_of_three_classes(self):
        results = run(*three(), *[simulate_rounds(1, rounds) for rounds in range(3)])
        self.assertEqual(results[-3:], [[0, 0, 1, 0, 1], [0, 26, 5, 9, 5], [0, 959, 100, 441, 100]])
        results = run(*three(), *[simulate_rounds(2, rounds) for rounds in range(3)])
        self.assertEqual(results[-3:], [[0, 0, 1, 0, 1], [0, 3, 1, 4, 1], [0, 21, 4, 35, 4]])

    def test_each_number_of_rounds_is_that_many_loads_grinds_and_sieves(self):
        for cut in (1, 2):
            for rounds in range(13):
                worked = run(*three(), *[load(), grind(), remove_finer(cut)] * rounds, totals())[-1]
                removed = worked[3:5]
                present = worked[5:7]
                self.assertEqual(last(*three(), simulate_rounds(cut, rounds)), [0] + present + removed)

    def test_0_and_12_and_13_rounds(self):
        halves = [create(2), set_breakage(1, [50, 50]), set_feed([0, 1])]
        self.assertEqual(last(*halves, simulate_rounds(1, 0)), [0, 0, 1, 0, 1])
        self.assertEqual(last(*halves, simulate_rounds(1, 12)), [0, 4095, 4096, 45057, 4096])
        self.assertEqual(last(*halves, simulate_rounds(1, 13)), [-22])
        self.assertEqual(last(*halves, simulate_rounds(1, LARGEST)), [-22])

    def test_it_needs_no_steady_state(self):
        begun = [create(3), set_feed([1, 2, 4])]
        self.assertEqual(last(*begun, simulate_rounds(1, 12)), [0, 72, 1, 12, 1])
        self.assertEqual(last(*begun, simulate_rounds(2, 12)), [0, 48, 1, 36, 1])

    def test_no_feed(self):
        self.assertEqual(last(*three(), set_feed([0, 0, 0]), simulate_rounds(1, 12)), [0, 0, 1, 0, 1])

    def test_material_in_the_mill_is_no_oversize(self):
        fresh = last(*three(), simulate_rounds(1, 5))
        self.assertEqual(last(*three(), load(), load(), grind(), simulate_rounds(1, 5)), fresh)

    def test_the_edges_of_the_cut(self):
        for class_count in (2, 3, 4, 5):
            begun = [create(class_count), set_feed([1] * class_count)]
            for rounds in (0, 1, 12):
                for cut in (0, class_count, class_count + 1, LARGEST):
                    self.assertEqual(last(*begun, simulate_rounds(cut, rounds)), [-22])
                for cut in (1, class_count - 1):
                    wanted = [0, rounds * (class_count - cut), 1, rounds * cut, 1]
                    self.assertEqual(last(*begun, simulate_rounds(cut, rounds)), wanted)

    def test_both_arguments_wrong(self):
        for cut, rounds in ((0, 13), (3, 13), (13, 0), (LARGEST, LARGEST)):
            self.assertEqual(last(*three(), simulate_rounds(cut, rounds)), [-22])

    def test_it_knows_no_limit_of_the_numbers(self):
        begun = [create(3), set_breakage(1, [1, 99]), set_breakage(2, [1, 1, 98]), set_feed([0, 97, 89])]
        result = last(*begun, simulate_rounds(2, 12))
        stays = sum(98 ** k * 100 ** (12 - k) for k in range(1, 13)) * 89
        self.assertEqual(result[1] * 100 ** 12, stays * result[2])
        begun = [create(5)] + [set_breakage(k, [1] * k + [100 - k]) for k in range(1, 5)]
        begun += [set_feed([99, 97, 91, 89, 83])]
        result = last(*begun, simulate_rounds(1, 12))
        self.assertEqual(result[1] * result[4] + result[3] * result[2], 12 * 459 * result[2] * result[4])

    def test_it_changes_nothing(self):
        for rounds in (0, 12, 13):
            results = run(*three(), load(), grind(), simulate_rounds(1, rounds), get_amounts(), totals())
            self.assertEqual(results[-2:], [[3, 9, 5, 11, 5, 3, 1], [1, 7, 1, 0, 1, 7, 1]])


if __name__ == "__main__":
    unittest.main()
