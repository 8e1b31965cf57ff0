"""The limit of 10^30: load and grind are refused at it, with nothing changed; preview_grind knows none."""

import unittest

from sievemill.circuit import Circuit
from sievemill.refusals import TooLarge
from tests.helper import create, get_amounts, grind, ground_14, last, load, preview_grind, run, set_breakage, set_feed

LIMIT = 10 ** 30
Q14 = 99 ** 14
D14 = 10 ** 28

# Class 1 holds Q14 / D14.
GROUND_14 = ground_14()


def mostly_staying(*steps):
    """Calls that grind 1 of class 1: for each step the percentage that stays, and how many passes."""
    calls = [create(2), set_feed([0, 1]), load()]
    for stays, passes in steps:
        calls += [set_breakage(1, [100 - stays, stays])] + [grind()] * passes
    return calls


class GrindDenominators(unittest.TestCase):
    def test_10_to_the_30_is_refused(self):
        results = run(*GROUND_14, grind(), get_amounts())
        self.assertEqual(results[-3], [2, D14 - Q14, D14, Q14, D14])
        self.assertEqual(results[-2], [-75])
        self.assertEqual(results[-1], [2, D14 - Q14, D14, Q14, D14])

    def test_a_little_below_is_taken(self):
        den = 2 ** 23 * 5 ** 33
        self.assertTrue(LIMIT * 97 // 100 < den < LIMIT)
        num = 99 ** 10 * 49 * 1 * 19
        calls = mostly_staying((99, 10), (98, 1), (4, 5), (95, 1))
        self.assertEqual(last(*calls), [2, den - num, den, num, den])

    def test_more_is_refused(self):
        calls = mostly_staying((99, 10), (98, 1), (4, 5), (95, 1))
        before = last(*calls)
        self.assertEqual(run(*calls, grind(), get_amounts())[-2:], [[-75], before])

    def test_a_refused_grind_may_be_followed_by_one_that_works(self):
        results = run(*GROUND_14, grind(), set_breakage(1, [50, 50]), grind())
        self.assertEqual(results[-3], [-75])
        self.assertEqual(results[-1], [2, 2 * D14 - Q14, 2 * D14, Q14, 2 * D14])


class GrindNumerators(unittest.TestCase):
    def test_a_little_below_is_taken(self):
        calls = GROUND_14 + [set_feed([49, 0]), load(), set_breakage(1, [50, 50]), grind()]
        self.assertEqual(last(*calls), [2, 100 * D14 - Q14, 2 * D14, Q14, 2 * D14])

    def test_a_little_above_is_refused(self):
        calls = GROUND_14 + [set_feed([50, 0]), load(), set_breakage(1, [50, 50])]
        self.assertLess(2 * D14, LIMIT)
        self.assertGreater(102 * D14 - Q14, LIMIT)
        amounts = [2, 51 * D14 - Q14, D14, Q14, D14]
        self.assertEqual(run(*calls, grind(), get_amounts())[-2:], [[-75], amounts])


class LoadNumerators(unittest.TestCase):
    def test_a_little_below_is_taken_in_class_0(self):
        self.assertEqual(last(*GROUND_14, set_feed([99, 0]), load()), [2, LIMIT - Q14, D14, Q14, D14])

    def test_a_little_above_is_refused_in_class_0(self):
        results = run(*GROUND_14, set_feed([100, 0]), load(), get_amounts())
        self.assertEqual(results[-2:], [[-75], [2, D14 - Q14, D14, Q14, D14]])

    def test_both_sides_in_the_coarsest_class(self):
        taken = last(*GROUND_14, set_feed([0, 99]), load())
        self.assertEqual(taken, [2, D14 - Q14, D14, 99 * D14 + Q14, D14])
        results = run(*GROUND_14, set_feed([1, 100]), load(), get_amounts())
        self.assertEqual(results[-2:], [[-75], [2, D14 - Q14, D14, Q14, D14]])

    def test_a_refused_load_may_be_followed_by_one_that_works(self):
        results = run(*GROUND_14, set_feed([100, 0]), load(), set_feed([0, 1]), load())
        self.assertEqual(results[-3:], [[-75], [100], [2, D14 - Q14, D14, D14 + Q14, D14]])

    def test_a_denominator_a_little_below_is_taken(self):
        calls = mostly_staying((99, 10), (98, 1), (4, 5), (95, 1))
        self.assertEqual(last(*calls, set_feed([0, 0]), load()), last(*calls))


class OnTheCircuitItself(unittest.TestCase):
    """Amounts put there by hand reach the limit exactly, and totals show that a refusal keeps them."""

    def circuit(self, amounts):
        circuit = Circuit(2)
        circuit.feed = [0, 1]
        circuit.amounts = list(amounts)
        circuit.loaded = (5, 3)
        circuit.removed = (2, 3)
        circuit.pass_count = 4
        return circuit

    def state(self, circuit):
        return (circuit.amounts, circuit.feed, circuit.breakage, circuit.loaded, circuit.removed, circuit.pass_count)

    def refused(self, amounts, operation):
        circuit = self.circuit(amounts)
        with self.assertRaises(TooLarge):
            operation(circuit)
        self.assertEqual(self.state(circuit), self.state(self.circuit(amounts)))

    def test_load(self):
        for amounts in ([(0, 1), (LIMIT - 1, 1)], [(LIMIT, 1), (0, 1)], [(1, LIMIT), (0, 1)], [(0, 1), (1, LIMIT)]):
            self.refused(amounts, Circuit.load)
        for amounts in ([(0, 1), (LIMIT - 2, 1)], [(LIMIT - 1, 1), (0, 1)], [(1, LIMIT - 1), (0, 1)]):
            circuit = self.circuit(amounts)
            circuit.load()
            self.assertEqual((circuit.amounts[0], circuit.loaded), (amounts[0], (8, 3)))

    def test_grind(self):
        for amounts in ([(0, 1), (LIMIT, 1)], [(LIMIT, 1), (0, 1)], [(1, LIMIT), (0, 1)], [(0, 1), (1, LIMIT)]):
            self.refused(amounts, Circuit.grind)
        for amounts in ([(0, 1), (LIMIT - 1, 1)], [(LIMIT - 1, 1), (0, 1)], [(1, LIMIT - 1), (0, 1)]):
            circuit = self.circuit(amounts)
            circuit.grind()
            self.assertEqual((circuit.amounts, circuit.pass_count), (amounts, 5))

    def test_the_limit_is_asked_of_lowest_terms(self):
        circuit = self.circuit([(0, 1), (LIMIT - 1, 1)])
        circuit.breakage = [[100], [50, 50]]
        circuit.grind()
        self.assertEqual(circuit.amounts, [(LIMIT - 1, 2), (LIMIT - 1, 2)])


class PreviewGrind(unittest.TestCase):
    def test_it_knows_no_limit(self):
        for passes in (1, 2, 12):
            num = 99 ** (14 + passes)
            den = 100 ** (14 + passes)
            self.assertGreaterEqual(den, LIMIT)
            results = run(*GROUND_14, preview_grind(passes), get_amounts())
            self.assertEqual(results[-2:], [[2, den - num, den, num, den], [2, D14 - Q14, D14, Q14, D14]])

    def test_nor_for_numerators(self):
        calls = GROUND_14 + [set_feed([50, 0]), load(), set_breakage(1, [50, 50])]
        self.assertEqual(last(*calls, preview_grind(1)), [2, 102 * D14 - Q14, 2 * D14, Q14, 2 * D14])


if __name__ == "__main__":
    unittest.main()
