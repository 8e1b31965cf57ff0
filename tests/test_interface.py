"""The function answers: how a list of calls is read and how its answers are written."""

import unittest

from sievemill.desk import answers
from tests.helper import (
    LARGEST, amount_up_to, coarsest_cut, create, cut_apart, get_amounts, get_breakage, get_feed, grind,
    has_steady_state, last, load, load_ratio, one_list, passes_needed, preview_grind, remove_finer, run, set_breakage,
    set_feed, simulate_rounds, steady_input, steady_load, steady_product, three, totals,
)

# One call of each number but create, with arguments that a circuit of two classes takes.
EACH_CALL = [
    set_breakage(1, [60, 40]), get_breakage(0), set_feed([1, 2]), load(), grind(), remove_finer(1), get_amounts(),
    amount_up_to(0), preview_grind(0), has_steady_state(1), steady_input(1), steady_product(1), steady_load(1),
    load_ratio(1), simulate_rounds(1, 1), totals(), passes_needed(0, 1), coarsest_cut(999, 1), get_feed(),
]


class Form(unittest.TestCase):
    def test_the_documents_example_number_by_number(self):
        calls = [0, 2, 1, 1, 2, 60, 40, 3, 2, 0, 50, 4, 5, 6, 1, 7, 13, 1, 12, 1, 13, 2]
        wanted = [1, 0, 1, 0, 1, 0, 5, 2, 0, 1, 50, 1, 5, 2, 30, 1, 20, 1, 3, 0, 30, 1, 5, 2, 0, 1, 20, 1]
        wanted += [3, 0, 250, 3, 5, 2, 50, 1, 0, 1, 1, -22]
        self.assertEqual(answers(calls), wanted)

    def test_the_other_calls_number_by_number(self):
        begun = [0, 2, 1, 1, 2, 60, 40, 3, 2, 0, 50, 4]
        behind = len(answers(begun))
        for call, wanted in (
            ([10, 1], [1, 1]), ([11, 1], [5, 2, 0, 1, 250, 3]), ([14, 1], [3, 0, 5, 3]),
            ([15, 1, 2], [5, 0, 28, 1, 72, 1]), ([16], [7, 0, 50, 1, 0, 1, 50, 1]), ([17, 4, 5], [1, 2]),
            ([18, 84, 1], [1, 1]), ([18, 83, 1], [1, -33]), ([19], [3, 2, 0, 50]),
        ):
            self.assertEqual(answers(begun + call)[behind:], wanted)

    def test_a_refusal_is_its_code_alone(self):
        self.assertEqual(answers([4]), [1, -11])
        self.assertEqual(answers([0, 2, 6, 2, 8, 2]), [1, 0, 1, -22, 1, -2])
        self.assertEqual(answers([0, 2, 11, 1, 17, 1, 2, 15, 1, 13]), [1, 0, 1, -33, 1, -6, 1, -22])

    def test_a_call_behind_a_list_of_any_length_is_read(self):
        for length in range(9):
            row = [7] * length
            results = run(create(2), set_breakage(1, row), get_amounts(), set_feed(row), get_breakage(0))
            self.assertEqual(results[2], [2, 0, 1, 0, 1])
            self.assertEqual(results[4], [1, 100])

    def test_a_call_behind_any_other_is_read(self):
        for call in EACH_CALL:
            for ahead in ([], [create(2)]):
                results = run(*ahead, call, create(5), get_breakage(3), call, create(4), get_amounts())
                self.assertEqual(results[len(ahead) + 1:len(ahead) + 3], [[0], [4, 0, 0, 0, 100]])
                self.assertEqual(results[-2:], [[0], [4] + [0, 1] * 4])

    def test_each_answer_has_the_length_that_its_signature_tells(self):
        for class_count in (2, 3, 4, 5):
            coarsest = class_count - 1
            results = run(
                create(class_count), set_breakage(coarsest, [50] + [0] * (class_count - 2) + [50]),
                get_breakage(coarsest), set_feed([1] * class_count), load(), grind(), remove_finer(1), get_amounts(),
                amount_up_to(0), preview_grind(1), has_steady_state(coarsest), steady_input(coarsest),
                steady_product(coarsest), steady_load(coarsest), load_ratio(coarsest), simulate_rounds(coarsest, 3),
                totals(), passes_needed(0, 1), coarsest_cut(999, 1), get_feed(),
            )
            amounts = 1 + 2 * class_count
            lengths = [len(result) for result in results]
            self.assertEqual(lengths[:10], [1, 1, 1 + class_count, 1, amounts, amounts, 3, amounts, 3, amounts])
            self.assertEqual(lengths[10:], [1, amounts, amounts, 3, 3, 5, 7, 1, 1, 1 + class_count])
            self.assertGreaterEqual(min(number for result in results for number in result), 0)

    def test_answers_are_plain_whole_numbers_in_a_list(self):
        answered = answers(one_list([create(2)] + EACH_CALL + EACH_CALL))
        self.assertIs(type(answered), list)
        self.assertEqual({type(number) for number in answered}, {int})


class NothingIsKept(unittest.TestCase):
    def test_a_second_list_knows_nothing_of_the_first(self):
        first = one_list([create(2), set_breakage(1, [60, 40]), set_feed([1, 2]), load(), grind()])
        answers(first)
        for call in EACH_CALL:
            self.assertEqual(answers(call), [1, -11])

    def test_a_second_list_begins_with_a_fresh_circuit(self):
        answers(one_list([create(2), set_breakage(1, [60, 40]), set_feed([1, 2]), load(), grind()]))
        results = run(create(2), get_amounts(), get_breakage(1), get_feed(), totals(), set_feed([0, 0]))
        self.assertEqual(results, [[0], [2, 0, 1, 0, 1], [2, 0, 100], [2, 0, 0], [0] + [0, 1] * 3, [0]])

    def test_the_same_list_is_answered_the_same_twice(self):
        calls = one_list([create(2)] + EACH_CALL + EACH_CALL)
        self.assertEqual(answers(calls), answers(calls))

    def test_the_list_that_was_handed_in_stays_as_it_was(self):
        calls = one_list([
            create(3), set_breakage(2, [10, 20, 70]), set_feed([1, 2, 3]), load(), grind(), remove_finer(2),
            set_breakage(1, [1] * 8), set_feed([]), create(9), amount_up_to(7), preview_grind(12), preview_grind(13),
            steady_input(2), steady_product(2), steady_load(1), load_ratio(2), simulate_rounds(2, 12),
            simulate_rounds(2, 13), totals(), passes_needed(1, 2), passes_needed(2, 1), coarsest_cut(999, 1),
            coarsest_cut(1000, 1), get_feed(),
        ])
        before = list(calls)
        answers(calls)
        self.assertEqual(calls, before)

    def test_a_changed_answer_changes_no_later_one(self):
        for call in (get_breakage(1), get_feed(), totals()):
            calls = one_list([create(2), set_breakage(1, [60, 40]), call])
            answered = answers(calls)
            wanted = list(answered)
            answered[-1] = 7
            self.assertEqual(answers(calls), wanted)


class NoCircuitYet(unittest.TestCase):
    def test_every_call_but_create_is_refused(self):
        self.assertEqual([call[0] for call in EACH_CALL], list(range(1, 20)))
        for call in EACH_CALL:
            self.assertEqual(run(call), [[-11]])

    def test_this_check_is_ahead_of_wrong_arguments(self):
        for call in (
            set_breakage(9, [60, 40]), set_breakage(1, []), set_breakage(1, [101, 0]), set_breakage(LARGEST, [1] * 8),
            get_breakage(5), get_breakage(LARGEST), set_feed([]), set_feed([101, 0]), set_feed([LARGEST] * 8),
            remove_finer(0), remove_finer(LARGEST), amount_up_to(5), amount_up_to(LARGEST), preview_grind(13),
            preview_grind(LARGEST), has_steady_state(0), has_steady_state(LARGEST), steady_input(0),
            steady_input(LARGEST), steady_product(0), steady_product(LARGEST), steady_load(0), steady_load(LARGEST),
            load_ratio(0), load_ratio(LARGEST), simulate_rounds(0, 1), simulate_rounds(1, 13),
            simulate_rounds(LARGEST, LARGEST), passes_needed(1, 0), passes_needed(1, 101), passes_needed(2, 1),
            passes_needed(LARGEST, LARGEST), coarsest_cut(1000, 1), coarsest_cut(1, 0), coarsest_cut(1, 100),
            coarsest_cut(LARGEST, LARGEST),
        ):
            self.assertEqual(run(call), [[-11]])

    def test_a_refused_create_makes_none(self):
        for call in EACH_CALL:
            self.assertEqual(run(create(1), call, create(6), call), [[-22], [-11], [-22], [-11]])

    def test_calls_ahead_of_create_leave_nothing_behind(self):
        results = run(set_breakage(1, [60, 40]), set_feed([1, 2]), create(2), get_breakage(1), set_feed([3, 4]))
        self.assertEqual(results, [[-11], [-11], [0], [2, 0, 100], [0]])


class LongestLists(unittest.TestCase):
    def test_660_numbers_without_a_circuit(self):
        calls = set_breakage(LARGEST, [LARGEST] * 8) * 60
        self.assertEqual(len(calls), 660)
        self.assertEqual(answers(calls), [1, -11] * 60)

    def test_60_calls_with_lists_of_8_on_a_circuit(self):
        calls = one_list([create(5)] + [set_breakage(4, [LARGEST] * 8), set_feed([LARGEST] * 8)] * 29 + [load()])
        self.assertEqual(answers(calls), [1, 0] + [1, -22] * 58 + [11, 5] + [0, 1] * 5)

    def test_60_calls_that_all_work(self):
        calls = [create(5), set_breakage(4, [10, 20, 30, 0, 40]), set_feed([0, 0, 0, 0, 100])] + [load()] * 57
        self.assertEqual(last(*calls), [5] + [0, 1] * 4 + [5700, 1])

    def test_60_calls_with_the_longest_numbers(self):
        calls = [create(5)]
        calls += [set_breakage(k, [1] * k + [100 - k]) for k in range(1, 5)]
        calls += [set_feed([99, 97, 91, 89, 83]), load()]
        calls += [grind()] * 20 + [preview_grind(12)] * 33
        results = run(*calls)
        self.assertEqual(len(results[-1]), 11)
        self.assertEqual(results[26], [-75])

    def test_60_calls_of_all_twenty(self):
        asked = [create(7)] + EACH_CALL[1:2] + EACH_CALL[3:]
        results = run(create(2), EACH_CALL[0], EACH_CALL[2], *asked * 3, get_amounts(), totals(), get_feed())
        self.assertEqual(len(results), 60)
        self.assertEqual(results[3:21], [
            [-22], [1, 100], [2, 1, 1, 2, 1], [2, 11, 5, 4, 5], [0, 11, 5], [2, 0, 1, 4, 5], [0, 0, 1],
            [2, 0, 1, 4, 5], [1], [2, 1, 1, 10, 3], [2, 3, 1, 0, 1], [0, 13, 3], [0, 13, 9], [0, 4, 5, 11, 5],
            [1, 3, 1, 11, 5, 4, 5], [0], [1], [2, 1, 2],
        ])
        # What asks of the steady state and the feed is answered the same in each turn.
        for turn in (21, 39):
            self.assertEqual(results[turn + 8:turn + 14], results[11:17])
            self.assertEqual(results[turn + 15:turn + 18], results[18:21])
        self.assertEqual(results[57:], [[2, 0, 1, 156, 125], [3, 9, 1, 969, 125, 156, 125], [2, 1, 2]])

    def test_60_calls_of_the_slowest(self):
        calls = [create(5)] + [set_breakage(k, [1] * k + [100 - k]) for k in range(1, 5)]
        calls += [set_feed([99, 97, 91, 89, 83]), load()] + [grind()] * 13
        calls += [simulate_rounds(1, 12), passes_needed(100, 100), steady_product(1), coarsest_cut(999, 99)] * 10
        results = run(*calls)
        self.assertEqual(len(results), 60)
        self.assertEqual(results[20:24] * 10, results[20:])
        self.assertEqual((results[21], results[23]), ([-33], [-33]))
        self.assertEqual(results[22], [5, 459, 1] + [0, 1] * 4)


class Together(unittest.TestCase):
    def test_the_results_come_in_the_order_of_the_calls(self):
        results = run(
            create(3), set_feed([1, 2, 3]), set_feed([4, 5, 6]), load(), get_breakage(2), amount_up_to(1), create(0),
            remove_finer(3),
        )
        wanted = [[0], [0], [6], [3, 4, 1, 5, 1, 6, 1], [3, 0, 0, 100], [0, 9, 1], [-22], [-22]]
        self.assertEqual(results, wanted)

    def test_the_state_is_asked_as_it_is_at_each_call(self):
        results = run(
            *three(), steady_load(1), set_breakage(2, [0, 0, 100]), steady_load(1), set_breakage(2, [5, 20, 75]),
            set_feed([0, 0, 0]), steady_load(1), load_ratio(1), set_feed([1, 2, 4]), load_ratio(1), create(3),
            load_ratio(1),
        )
        self.assertEqual(results[5:], [
            [0, 103, 3], [0], [-33], [0], [7], [0, 0, 1], [-6], [0], [0, 103, 21], [0], [-33],
        ])

    def test_an_answer_does_not_change_with_what_comes_behind(self):
        calls = [create(2)] + EACH_CALL + [grind(), totals()]
        whole = answers(one_list(calls))
        for count in range(1, len(calls) + 1):
            part = cut_apart(answers(one_list(calls[:count])))
            self.assertEqual(part, cut_apart(whole)[:count])


if __name__ == "__main__":
    unittest.main()
