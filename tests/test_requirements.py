"""The six requirements of the document, over ordinary circuits, and that asking changes nothing."""

import copy
import random
import unittest

from sievemill.circuit import Circuit
from sievemill.desk import Desk
from tests.helper import (
    amount_up_to, coarsest_cut, create, fractions_of, get_amounts, get_breakage, get_feed, grind, has_steady_state,
    last, load, load_ratio, passes_needed, preview_grind, remove_finer, run, set_feed, set_rows, simulate_rounds,
    some_row, steady_input, steady_load, steady_product, totals,
)


class Example:
    """An ordinary circuit: its rows, two feeds, and the calls that bring it about with the first one."""

    def __init__(self, chance, count):
        self.count = count
        self.rows = [some_row(chance, size_class) for size_class in range(count)]
        self.feeds = [[chance.randint(0, 100) for _ in range(count)] for _ in range(2)]
        self.feed = self.feeds[0]
        self.made = [create(count)] + set_rows(self.rows)
        self.begun = self.made + [set_feed(self.feed)]

    def steady_cuts(self):
        asked = [has_steady_state(cut) for cut in range(1, self.count)]
        results = run(*self.begun, *asked)[len(self.begun):]
        return [cut for cut, result in enumerate(results, start=1) if result == [1]]

    def one_pass(self, amounts):
        shares = [[amount * share / 100 for share in row] for amount, row in zip(amounts, self.rows)]
        return [sum(parts[j] for parts in shares[j:]) for j in range(self.count)]


def examples():
    chance = random.Random(3)
    for count in (2, 3, 4, 5):
        for _ in range(25):
            yield Example(chance, count)


class MassBalance(unittest.TestCase):
    def test_what_is_loaded_is_removed_or_present(self):
        for example in examples():
            steps = [
                load(), grind(), remove_finer(1), set_feed(example.feeds[1]), load(), grind(), grind(),
                remove_finer(example.count - 1), load(),
            ]
            asked = [call for step in steps for call in (step, totals())]
            results = run(*example.begun, *asked)[len(example.begun) + 1::2]
            self.assertEqual(len(results), len(steps))
            for result in results:
                loaded, removed, present = fractions_of(result)
                self.assertEqual(loaded, removed + present)
            fed = sum(example.feed) + 2 * sum(example.feeds[1])
            self.assertEqual((results[-1][0], fractions_of(results[-1])[0]), (3, fed))

    def test_the_parts_add_up_as_the_calls_tell_them(self):
        for example in examples():
            coarsest = example.count - 1
            results = run(
                *example.begun, load(), grind(), remove_finer(1), grind(), remove_finer(coarsest),
                amount_up_to(coarsest), totals(),
            )
            first, second, present = [fractions_of(results[k])[0] for k in (-5, -3, -2)]
            self.assertEqual(fractions_of(results[-1]), [sum(example.feed), first + second, present])

    def test_a_pass_keeps_the_sum(self):
        for example in examples():
            results = run(*example.begun, load(), grind(), grind(), preview_grind(3))[len(example.begun):]
            for result in results:
                self.assertEqual(sum(fractions_of(result)), sum(example.feed))


class SteadyState(unittest.TestCase):
    def test_as_much_leaves_as_is_fed(self):
        for example in examples():
            for cut in example.steady_cuts():
                product = fractions_of(last(*example.begun, steady_product(cut)))
                self.assertEqual(sum(product), sum(example.feed))
                self.assertEqual(product[cut:], [0] * (example.count - cut))

    def test_the_input_is_the_feed_and_the_oversize_of_a_pass_over_it(self):
        asked = 0
        for example in examples():
            for cut in example.steady_cuts():
                entering = fractions_of(last(*example.begun, steady_input(cut)))
                ground = example.one_pass(entering)
                oversize = [0] * cut + ground[cut:]
                self.assertEqual(entering, [fed + back for fed, back in zip(example.feed, oversize)])
                product = fractions_of(last(*example.begun, steady_product(cut)))
                self.assertEqual(product, ground[:cut] + [0] * (example.count - cut))
                asked += 1
        self.assertGreater(asked, 100)

    def test_load_and_ratio_are_of_the_input(self):
        for example in examples():
            for cut in example.steady_cuts():
                results = run(*example.begun, steady_input(cut), steady_load(cut), load_ratio(cut))[-3:]
                entering, carried, ratio = [fractions_of(result) for result in results]
                self.assertEqual(carried, [sum(entering)])
                self.assertEqual([part * sum(example.feed) for part in ratio], carried)


class Finer(unittest.TestCase):
    def test_a_pass_never_makes_material_coarser(self):
        for example in examples():
            results = run(*example.begun, load(), grind(), grind(), preview_grind(3))[len(example.begun):]
            lots = [fractions_of(result) for result in results]
            for coarser, finer in zip(lots, lots[1:]):
                for size_class in range(example.count):
                    self.assertLessEqual(sum(coarser[:size_class + 1]), sum(finer[:size_class + 1]))


class Loads(unittest.TestCase):
    def test_at_least_the_feed_and_never_greater_for_a_coarser_cut(self):
        several = 0
        for example in examples():
            cuts = example.steady_cuts()
            loads = [fractions_of(last(*example.begun, steady_load(cut)))[0] for cut in cuts]
            for carried in loads:
                self.assertGreaterEqual(carried, sum(example.feed))
            for fine, coarse in zip(loads, loads[1:]):
                self.assertGreaterEqual(fine, coarse)
            several += len(loads) > 1
        self.assertGreater(several, 30)

    def test_what_fits_fits_at_the_coarsest_cut(self):
        for example in examples():
            for cut in example.steady_cuts():
                carried = fractions_of(last(*example.begun, steady_load(cut)))[0]
                bound = -(-carried.numerator // carried.denominator)
                if bound <= 999:
                    self.assertEqual(last(*example.begun, coarsest_cut(bound, 1)), [example.count - 1])


class Oversize(unittest.TestCase):
    def test_no_class_ever_exceeds_its_oversize_in_the_steady_state(self):
        for example in examples():
            for cut in example.steady_cuts():
                entering = fractions_of(last(*example.begun, steady_input(cut)))
                steady = [amount - fed for amount, fed in zip(entering, example.feed)]
                steps = [load(), grind(), remove_finer(cut), get_amounts()]
                results = run(*example.begun, *steps * 8)[len(example.begun):]
                self.assertNotIn([-75], results)
                for result in results[3::4]:
                    for back, bound in list(zip(fractions_of(result), steady))[cut:]:
                        self.assertLessEqual(back, bound)

    def test_nor_does_their_total_in_the_rounds(self):
        for example in examples():
            for cut in example.steady_cuts():
                carried = fractions_of(last(*example.begun, steady_load(cut)))[0]
                results = run(*example.begun, *[simulate_rounds(cut, rounds) for rounds in range(13)])[-13:]
                returned = [fractions_of(result)[0] for result in results]
                self.assertEqual(returned, sorted(returned))
                self.assertLessEqual(returned[-1], carried - sum(example.feed))

    def test_what_is_fed_in_the_rounds_comes_out_or_is_returned(self):
        for example in examples():
            for cut in range(1, example.count):
                for rounds in (0, 1, 5, 12):
                    parts = fractions_of(last(*example.begun, simulate_rounds(cut, rounds)))
                    self.assertEqual(sum(parts), rounds * sum(example.feed))


class Linear(unittest.TestCase):
    def test_two_lots_together_are_the_sum_of_each(self):
        for example in examples():
            lots = [
                fractions_of(last(*example.made, set_feed(feed), load(), grind(), grind())) for feed in example.feeds
            ]
            feeds = [call for feed in example.feeds for call in (set_feed(feed), load())]
            both = fractions_of(last(*example.made, *feeds, grind(), grind()))
            self.assertEqual(both, [left + right for left, right in zip(*lots)])


def state(circuit):
    return copy.deepcopy(vars(circuit))


class AskingChangesNothing(unittest.TestCase):
    def asked(self, count):
        for cut in (0, 1, count - 1, count):
            for call in (has_steady_state, steady_input, steady_product, steady_load, load_ratio):
                yield call(cut)
            for rounds in (0, 3, 12, 13):
                yield simulate_rounds(cut, rounds)
        for part in ((0, 1), (1, 2), (99, 100), (1, 1), (2, 1), (0, 0)):
            yield passes_needed(*part)
        for bound in ((0, 1), (100, 1), (999, 1), (1000, 1), (1, 0)):
            yield coarsest_cut(*bound)
        yield from (get_amounts(), amount_up_to(0), amount_up_to(count), preview_grind(5), get_breakage(count - 1),
                    totals(), get_feed())

    def test_of_the_whole_state(self):
        for example in examples():
            desk = Desk()
            desk.circuit = Circuit(example.count)
            for size_class, row in enumerate(example.rows):
                desk.circuit.set_breakage(size_class, row)
            desk.circuit.set_feed(example.feed)
            desk.circuit.load()
            desk.circuit.grind()
            desk.circuit.remove_finer(1)
            circuit = desk.circuit
            before = state(circuit)
            for call in self.asked(example.count):
                desk.answer(call[0], call[1:])
                self.assertIs(desk.circuit, circuit)
                self.assertEqual(state(circuit), before)

    def test_of_what_the_calls_behind_it_answer(self):
        behind = [get_amounts(), totals(), get_feed(), steady_load(1), grind(), load(), totals()]
        for example in list(examples())[::5]:
            begun = example.begun + [load(), grind(), remove_finer(1)]
            wanted = run(*begun, *behind)[len(begun):]
            for call in self.asked(example.count):
                self.assertEqual(run(*begun, call, *behind)[len(begun) + 1:], wanted)

    def test_an_answer_is_no_part_of_the_state(self):
        for ask in (Circuit.get_feed, Circuit.totals, Circuit.get_amounts):
            circuit = Circuit(2)
            before = state(circuit)
            answered = ask(circuit)
            answered.append(7)
            answered[1] = 7
            self.assertEqual(state(circuit), before)


if __name__ == "__main__":
    unittest.main()
