"""The function answers: how a list of calls is read and how its answers are written."""

import unittest

from sievemill.desk import answers
from tests.helper import (
    LARGEST, amount_up_to, create, cut_apart, get_amounts, get_breakage, grind, last, load, one_list,
    preview_grind, remove_finer, run, set_breakage, set_feed,
)


class Form(unittest.TestCase):
    def test_the_documents_example_number_by_number(self):
        calls = [0, 2, 1, 1, 2, 60, 40, 3, 2, 0, 50, 4, 5, 6, 1, 7]
        wanted = [1, 0, 1, 0, 1, 0, 5, 2, 0, 1, 50, 1, 5, 2, 30, 1, 20, 1, 3, 0, 30, 1, 5, 2, 0, 1, 20, 1]
        self.assertEqual(answers(calls), wanted)

    def test_a_refusal_is_its_code_alone(self):
        self.assertEqual(answers([4]), [1, -11])
        self.assertEqual(answers([0, 2, 6, 2, 8, 2]), [1, 0, 1, -22, 1, -2])

    def test_a_call_behind_a_list_of_any_length_is_read(self):
        for length in range(9):
            row = [7] * length
            results = run(create(2), set_breakage(1, row), get_amounts(), set_feed(row), get_breakage(0))
            self.assertEqual(results[2], [2, 0, 1, 0, 1])
            self.assertEqual(results[4], [1, 100])

    def test_each_answer_has_the_length_that_its_signature_tells(self):
        for class_count in (2, 3, 4, 5):
            results = run(
                create(class_count), set_breakage(1, [50, 50]), get_breakage(1), set_feed([1] * class_count), load(),
                grind(), remove_finer(1), get_amounts(), amount_up_to(0), preview_grind(1),
            )
            amounts = 1 + 2 * class_count
            lengths = [len(result) for result in results]
            self.assertEqual(lengths, [1, 1, 3, 1, amounts, amounts, 3, amounts, 3, amounts])

    def test_answers_are_plain_whole_numbers_in_a_list(self):
        calls = one_list([create(3), set_breakage(2, [1, 2, 97]), set_feed([0, 0, 1]), load(), grind(), get_breakage(2)])
        answered = answers(calls)
        self.assertIs(type(answered), list)
        self.assertEqual({type(number) for number in answered}, {int})


class NothingIsKept(unittest.TestCase):
    def test_a_second_list_knows_nothing_of_the_first(self):
        first = one_list([create(2), set_breakage(1, [60, 40]), set_feed([1, 2]), load(), grind()])
        answers(first)
        for call in (load(), grind(), get_amounts(), get_breakage(1), set_feed([1, 1])):
            self.assertEqual(answers(call), [1, -11])

    def test_a_second_list_begins_with_a_fresh_circuit(self):
        answers(one_list([create(2), set_breakage(1, [60, 40]), set_feed([1, 2]), load(), grind()]))
        results = run(create(2), get_amounts(), get_breakage(1), set_feed([0, 0]))
        self.assertEqual(results, [[0], [2, 0, 1, 0, 1], [2, 0, 100], [0]])

    def test_the_same_list_is_answered_the_same_twice(self):
        calls = one_list([create(2), set_breakage(1, [60, 40]), set_feed([1, 2]), load(), grind(), get_amounts()])
        self.assertEqual(answers(calls), answers(calls))

    def test_the_list_that_was_handed_in_stays_as_it_was(self):
        calls = one_list([
            create(3), set_breakage(2, [10, 20, 70]), set_feed([1, 2, 3]), load(), grind(), remove_finer(2),
            set_breakage(1, [1] * 8), set_feed([]), create(9), amount_up_to(7), preview_grind(12), preview_grind(13),
        ])
        before = list(calls)
        answers(calls)
        self.assertEqual(calls, before)

    def test_a_changed_answer_changes_no_later_one(self):
        calls = one_list([create(2), set_breakage(1, [60, 40]), get_breakage(1)])
        answered = answers(calls)
        wanted = list(answered)
        answered[-1] = 7
        self.assertEqual(answers(calls), wanted)


class NoCircuitYet(unittest.TestCase):
    def test_every_call_but_create_is_refused(self):
        for call in (
            set_breakage(1, [60, 40]), get_breakage(0), set_feed([1, 2]), load(), grind(), remove_finer(1),
            get_amounts(), amount_up_to(0), preview_grind(0),
        ):
            self.assertEqual(run(call), [[-11]])

    def test_this_check_is_ahead_of_wrong_arguments(self):
        for call in (
            set_breakage(9, [60, 40]), set_breakage(1, []), set_breakage(1, [101, 0]), set_breakage(LARGEST, [1] * 8),
            get_breakage(5), get_breakage(LARGEST), set_feed([]), set_feed([101, 0]), set_feed([LARGEST] * 8),
            remove_finer(0), remove_finer(LARGEST), amount_up_to(5), amount_up_to(LARGEST), preview_grind(13),
            preview_grind(LARGEST),
        ):
            self.assertEqual(run(call), [[-11]])

    def test_a_refused_create_makes_none(self):
        self.assertEqual(run(create(1), load(), create(6), get_amounts()), [[-22], [-11], [-22], [-11]])

    def test_calls_ahead_of_create_leave_nothing_behind(self):
        results = run(set_breakage(1, [60, 40]), set_feed([1, 2]), create(2), get_breakage(1), set_feed([3, 4]))
        self.assertEqual(results, [[-11], [-11], [0], [2, 0, 100], [0]])


class LongestLists(unittest.TestCase):
    def test_660_numbers_without_a_circuit(self):
        calls = set_breakage(LARGEST, [LARGEST] * 8) * 60
        self.assertEqual(len(calls), 660)
        self.assertEqual(answers(calls), [1, -11] * 60)

    def test_60_calls_with_lists_of_8_on_a_circuit(self):
        calls = one_list([create(5)] + [set_breakage(4, [LARGEST] * 8), set_feed([LARGEST] * 8)] * 29 + [load()])
        self.assertEqual(answers(calls), [1, 0] + [1, -22] * 58 + [11, 5] + [0, 1] * 5)

    def test_60_calls_that_all_work(self):
        calls = [create(5), set_breakage(4, [10, 20, 30, 0, 40]), set_feed([0, 0, 0, 0, 100])] + [load()] * 57
        self.assertEqual(last(*calls), [5] + [0, 1] * 4 + [5700, 1])

    def test_60_calls_with_the_longest_numbers(self):
        calls = [create(5)]
        calls += [set_breakage(k, [1] * k + [100 - k]) for k in range(1, 5)]
        calls += [set_feed([99, 97, 91, 89, 83]), load()]
        calls += [grind()] * 20 + [preview_grind(12)] * 33
        results = run(*calls)
        self.assertEqual(len(results[-1]), 11)
        self.assertEqual(results[26], [-75])


class Together(unittest.TestCase):
    def test_the_results_come_in_the_order_of_the_calls(self):
        results = run(
            create(3), set_feed([1, 2, 3]), set_feed([4, 5, 6]), load(), get_breakage(2), amount_up_to(1), create(0),
            remove_finer(3),
        )
        wanted = [[0], [0], [6], [3, 4, 1, 5, 1, 6, 1], [3, 0, 0, 100], [0, 9, 1], [-22], [-22]]
        self.assertEqual(results, wanted)

    def test_an_answer_does_not_change_with_what_comes_behind(self):
        calls = [create(2), set_breakage(1, [60, 40]), set_feed([1, 2]), load(), grind(), remove_finer(1), grind()]
        whole = answers(one_list(calls))
        for count in range(1, len(calls) + 1):
            part = cut_apart(answers(one_list(calls[:count])))
            self.assertEqual(part, cut_apart(whole)[:count])


if __name__ == "__main__":
    unittest.main()
