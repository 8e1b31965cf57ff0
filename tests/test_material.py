"""load, grind, remove_finer, get_amounts, amount_up_to and preview_grind: the material itself."""

import unittest

from sievemill.circuit import Circuit
from sievemill.refusals import BadArgument
from tests.helper import (
    LARGEST, amount_up_to, create, get_amounts, get_breakage, grind, last, load, long_denominators, preview_grind,
    remove_finer, run, set_breakage, set_feed,
)

THREE = [create(3), set_breakage(1, [30, 70]), set_breakage(2, [5, 20, 75]), set_feed([1, 2, 4]), load()]


class Load(unittest.TestCase):
    def test_the_feed_is_added(self):
        results = run(create(2), set_feed([3, 50]), load(), load(), set_feed([1, 0]), load())
        self.assertEqual(results[2:], [[2, 3, 1, 50, 1], [2, 6, 1, 100, 1], [53], [2, 7, 1, 100, 1]])

    def test_it_is_added_to_fractions(self):
        self.assertEqual(last(*THREE, grind(), load()), [3, 14, 5, 21, 5, 7, 1])

    def test_it_keeps_feed_and_matrix(self):
        results = run(*THREE, get_breakage(2), set_feed([0, 0, 0]))
        self.assertEqual(results[5:], [[3, 5, 20, 75], [7]])

    def test_its_sum_is_added_to_loaded(self):
        circuit = Circuit(2)
        circuit.set_feed([3, 50])
        circuit.load()
        circuit.load()
        self.assertEqual((circuit.loaded, circuit.removed, circuit.pass_count), ((106, 1), (0, 1), 0))


class Grind(unittest.TestCase):
    def test_one_pass_over_three_classes(self):
        self.assertEqual(last(*THREE, grind()), [3, 9, 5, 11, 5, 3, 1])

    def test_passes_one_behind_another(self):
        calls = [create(2), set_breakage(1, [60, 40]), set_feed([0, 50]), load(), grind(), grind(), grind()]
        self.assertEqual(run(*calls)[4:], [[2, 30, 1, 20, 1], [2, 42, 1, 8, 1], [2, 234, 5, 16, 5]])

    def test_all_at_once_from_the_amounts_before(self):
        calls = [create(3), set_breakage(1, [100, 0]), set_breakage(2, [0, 100, 0]), set_feed([1, 10, 100]), load()]
        self.assertEqual(run(*calls, grind(), grind())[5:], [[3, 11, 1, 100, 1, 0, 1], [3, 111, 1, 0, 1, 0, 1]])

    def test_a_new_circuit_grinds_nothing_finer(self):
        self.assertEqual(last(create(3), set_feed([1, 2, 3]), load(), grind()), [3, 1, 1, 2, 1, 3, 1])

    def test_an_empty_mill(self):
        self.assertEqual(last(create(2), set_breakage(1, [60, 40]), grind()), [2, 0, 1, 0, 1])

    def test_lowest_terms_with_zero_as_0_1(self):
        calls = [create(2), set_breakage(1, [50, 50]), set_feed([0, 1]), load(), grind(), grind()]
        self.assertEqual(run(*calls)[4:], [[2, 1, 2, 1, 2], [2, 3, 4, 1, 4]])
        calls = [create(2), set_breakage(1, [100, 0]), set_feed([0, 7]), load(), grind()]
        self.assertEqual(last(*calls), [2, 7, 1, 0, 1])

    def test_it_counts_its_passes_alone(self):
        circuit = Circuit(2)
        circuit.set_breakage(1, [60, 40])
        circuit.set_feed([0, 50])
        circuit.load()
        circuit.preview_grind(12)
        circuit.grind()
        circuit.grind()
        self.assertEqual((circuit.loaded, circuit.removed, circuit.pass_count), ((50, 1), (0, 1), 2))


class RemoveFiner(unittest.TestCase):
    def test_the_undersize_is_taken_and_the_oversize_stays(self):
        self.assertEqual(run(*THREE, grind(), remove_finer(1), get_amounts())[6:], [[0, 9, 5], [3, 0, 1, 11, 5, 3, 1]])
        self.assertEqual(run(*THREE, grind(), remove_finer(2), get_amounts())[6:], [[0, 4, 1], [3, 0, 1, 0, 1, 3, 1]])

    def test_nothing_left_to_take(self):
        results = run(*THREE, remove_finer(2), remove_finer(2), remove_finer(1))
        self.assertEqual(results[5:], [[0, 3, 1], [0, 0, 1], [0, 0, 1]])

    def test_the_edges_of_the_cut(self):
        for class_count in (2, 3, 4, 5):
            for cut in (0, class_count, class_count + 1, LARGEST):
                self.assertEqual(last(create(class_count), remove_finer(cut)), [-22])
            for cut in range(1, class_count):
                self.assertEqual(last(create(class_count), remove_finer(cut)), [0, 0, 1])

    def test_a_refused_one_takes_nothing(self):
        for cut in (0, 3, LARGEST):
            self.assertEqual(run(*THREE, remove_finer(cut), get_amounts())[5:], [[-22], [3, 1, 1, 2, 1, 4, 1]])

    def test_its_total_is_added_to_removed(self):
        circuit = Circuit(2)
        circuit.set_breakage(1, [50, 50])
        circuit.set_feed([0, 1])
        circuit.load()
        for removed in ((1, 2), (3, 4), (7, 8)):
            circuit.grind()
            circuit.remove_finer(1)
            self.assertEqual(circuit.removed, removed)
        for cut in (0, 2):
            with self.assertRaises(BadArgument):
                circuit.remove_finer(cut)
        self.assertEqual((circuit.loaded, circuit.removed, circuit.pass_count), ((1, 1), (7, 8), 3))

    def test_its_total_has_no_limit(self):
        result = last(*long_denominators(), remove_finer(3))
        self.assertEqual(result, [0, 25 ** 20 + 2 ** 20, 2 ** 20 * 25 ** 20])


class GetAmounts(unittest.TestCase):
    def test_it_tells_the_amounts_and_changes_nothing(self):
        self.assertEqual(run(*THREE, get_amounts(), get_amounts())[5:], [[3, 1, 1, 2, 1, 4, 1]] * 2)
        self.assertEqual(run(*THREE, grind(), get_amounts(), get_amounts())[6:], [[3, 9, 5, 11, 5, 3, 1]] * 2)


class AmountUpTo(unittest.TestCase):
    def test_the_total_of_the_finer_classes_and_the_class_itself(self):
        results = run(*THREE, grind(), amount_up_to(0), amount_up_to(1), amount_up_to(2), get_amounts())
        self.assertEqual(results[6:], [[0, 9, 5], [0, 4, 1], [0, 7, 1], [3, 9, 5, 11, 5, 3, 1]])

    def test_nothing_there(self):
        self.assertEqual(last(create(2), amount_up_to(0)), [0, 0, 1])

    def test_the_last_class_and_the_first_past_it(self):
        for class_count in (2, 3, 4, 5):
            loaded = [create(class_count), set_feed([10] * class_count), load()]
            self.assertEqual(last(*loaded, amount_up_to(class_count - 1)), [0, 10 * class_count, 1])
            self.assertEqual(last(*loaded, amount_up_to(class_count)), [-2])
            self.assertEqual(last(*loaded, amount_up_to(LARGEST)), [-2])

    def test_it_has_no_limit(self):
        results = run(*long_denominators(), amount_up_to(1), amount_up_to(2))
        self.assertEqual(results[-2], [0, 1, 25 ** 20])
        self.assertEqual(results[-1], [0, 25 ** 20 + 2 ** 20, 2 ** 20 * 25 ** 20])


class PreviewGrind(unittest.TestCase):
    def test_each_number_of_passes_is_that_many_grinds(self):
        for passes in range(13):
            ground = last(*THREE, *[grind()] * passes, get_amounts())
            self.assertEqual(last(*THREE, preview_grind(passes)), ground)

    def test_0_and_12_and_13_passes(self):
        self.assertEqual(last(*THREE, preview_grind(0)), [3, 1, 1, 2, 1, 4, 1])
        halves = [create(2), set_breakage(1, [50, 50]), set_feed([0, 1]), load()]
        self.assertEqual(last(*halves, preview_grind(12)), [2, 4095, 4096, 1, 4096])
        self.assertEqual(last(*halves, preview_grind(13)), [-22])
        self.assertEqual(last(*halves, preview_grind(LARGEST)), [-22])

    def test_it_changes_nothing(self):
        for passes in (0, 1, 12, 13):
            self.assertEqual(last(*THREE, preview_grind(passes), get_amounts()), [3, 1, 1, 2, 1, 4, 1])
            self.assertEqual(last(*THREE, preview_grind(passes), grind()), [3, 9, 5, 11, 5, 3, 1])
        circuit = Circuit(2)
        circuit.preview_grind(12)
        self.assertEqual(circuit.pass_count, 0)


if __name__ == "__main__":
    unittest.main()
