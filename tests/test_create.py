"""create: a new circuit, and what it begins with."""

import unittest

from tests.helper import (
    LARGEST, amount_up_to, create, get_amounts, get_breakage, grind, last, load, remove_finer, run, set_breakage,
    set_feed,
)
from sievemill.circuit import Circuit


class Create(unittest.TestCase):
    def test_class_counts_from_2_to_5_are_taken(self):
        for class_count in (2, 3, 4, 5):
            self.assertEqual(run(create(class_count)), [[0]])
            self.assertEqual(last(create(class_count), get_amounts()), [class_count] + [0, 1] * class_count)

    def test_other_class_counts_are_refused(self):
        for class_count in (0, 1, 6, 7, 100, LARGEST):
            self.assertEqual(run(create(class_count)), [[-22]])

    def test_a_new_matrix_leaves_each_class_as_it_is(self):
        for class_count in (2, 3, 4, 5):
            for size_class in range(class_count):
                wanted = [size_class + 1] + [0] * size_class + [100]
                self.assertEqual(last(create(class_count), get_breakage(size_class)), wanted)

    def test_a_new_feed_is_0(self):
        self.assertEqual(last(create(5), set_feed([1, 2, 3, 4, 5])), [0])
        self.assertEqual(last(create(3), load()), [3, 0, 1, 0, 1, 0, 1])

    def test_new_totals_are_0(self):
        circuit = Circuit(4)
        self.assertEqual((circuit.loaded, circuit.removed, circuit.pass_count), ((0, 1), (0, 1), 0))


class SecondCreate(unittest.TestCase):
    begun = [create(3), set_breakage(2, [10, 20, 70]), set_feed([1, 2, 3]), load(), grind()]

    def test_it_replaces_the_circuit_with_a_new_one(self):
        results = run(*self.begun, create(3), get_amounts(), get_breakage(2), load(), set_feed([0, 0, 0]))
        self.assertEqual(results[5:], [[0], [3, 0, 1, 0, 1, 0, 1], [3, 0, 0, 100], [3, 0, 1, 0, 1, 0, 1], [0]])

    def test_it_may_have_another_class_count(self):
        results = run(*self.begun, create(2), get_amounts(), get_breakage(2), create(5), get_amounts())
        self.assertEqual(results[5:], [[0], [2, 0, 1, 0, 1], [-2], [0], [5] + [0, 1] * 5])

    def test_a_refused_one_keeps_the_circuit(self):
        kept = run(*self.begun, get_amounts(), get_breakage(2), set_feed([4, 4, 4]), amount_up_to(1), remove_finer(2))
        for class_count in (0, 1, 6, LARGEST):
            results = run(
                *self.begun, create(class_count), get_amounts(), get_breakage(2), set_feed([4, 4, 4]),
                amount_up_to(1), remove_finer(2),
            )
            self.assertEqual(results[5], [-22])
            self.assertEqual(results[6:], kept[5:])


if __name__ == "__main__":
    unittest.main()
