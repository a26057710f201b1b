"""The interface: how calls and answers are told, and that nothing is kept or changed."""

import contextlib
import io
import unittest

from saidnumbers.sets import answers
from telling import ENGLISH, Case, alike, ask, begins, found, gaps, in_order, longest, read, rules, said, say, word

EIGHT_KINDS = (rules(0, ENGLISH) + say(0, 42) + read(0, 99, "ten") + gaps(1, 3, 5) + alike(0, 0, 9)
               + longest(0, 0, 9) + in_order(0, [3, 2, 1, 2]) + begins())


class InterfaceTest(Case):
    def test_a_whole_line_in_numbers(self):
        calls = [1, 2, 22, 2,
                 4, 0, 1, 0, 0, 2, 104, 105,
                 6, 3, 3, 3, 1, 7, 0, 0, 1, 33, 1, 2, 2]
        calls += [2, 2, 4,
                  2, 2, 5,
                  3, 2, 9, 2, 104, 105,
                  3, 2, 9, 0,
                  0]
        self.assertEqual(answers(calls), [1, 2,
                                          4, 0, 2, 104, 105,
                                          1, -6,
                                          3, 1, 1, 4,
                                          2, 0, 0,
                                          1, 0])

    def test_calls_of_all_eight_kinds_in_one_line(self):
        calls = [1, 5, 25, 4,
                 1, 0, 1, 0, 0, 1, 98,
                 2, 0, 1, 0, 0, 1, 97,
                 3, 0, 0,
                 5, 0, 1, 0, 0, 1, 97]
        calls += [2, 5, 1,
                  3, 5, 9, 1, 97,
                  4, 5, 0, 4,
                  5, 5, 0, 9,
                  6, 5, 0, 9,
                  7, 5, 4, 1, 4, 5, 2,
                  0,
                  4, 5, 1, 2]
        self.assertEqual(answers(calls), [1, 4,
                                          3, 0, 1, 98,
                                          4, 2, 2, 2, 5,
                                          4, 2, 2, 0, 4,
                                          4, 1, 2, 5, 2,
                                          4, 0, 2, 1, 1,
                                          6, 4, 4, 2, 5, 1, 4,
                                          1, 0,
                                          4, 2, 2, 1, 2])

    def test_lists_of_none_are_told_with_their_length(self):
        self.assertEqual(answers(rules(0, [(0, 0, [])]) + say(0, 0) + read(0, 5, "a")), [1, 1, 2, 0, 0, 2, 0, 0])
        self.assertEqual(answers(rules(0, [word(0, "a")]) + gaps(0, 0, 0) + in_order(0, [])), [1, 1, 2, 0, 0, 2, 0, 0])

    def test_only_the_0_of_alike_stands_alone(self):
        self.assertEqual(answers(alike(0, 0, 9)), [1, 0])

    def test_begins_and_refusals_are_one_number(self):
        self.assertEqual(answers(begins() + say(8, 0) + say(0, 0)), [1, 0, 1, -1, 1, -6])
        calls = gaps(8, 0, 0) + alike(8, 0, 0) + longest(8, 0, 0) + longest(0, 0, 0) + in_order(8, [])
        self.assertEqual(answers(calls), [1, -1, 1, -1, 1, -1, 1, -6, 1, -1])

    def test_60_calls(self):
        self.assertEqual(answers(begins() * 60), [1, 0] * 60)

    def test_the_list_is_not_changed(self):
        calls = EIGHT_KINDS + rules(0, ENGLISH[::-1]) + in_order(0, [9, 3]) + in_order(9, [9, 3])
        before = list(calls)
        answers(calls)
        self.assertEqual(calls, before)

    def test_each_time_is_as_if_for_the_first(self):
        self.assertEqual(ask(rules(0, [word(0, "zero")]), say(0, 0)), ask(rules(0, [word(0, "zero")]), say(0, 0)))
        self.assertEqual(ask(say(0, 0), read(0, 9, "zero")), [[-6], [0, 0]])
        self.assertEqual(ask(gaps(0, 0, 0), longest(0, 0, 0), in_order(0, [1, 0])), [[1, 1, 0], [-6], [2, 2, 0, 1]])
        self.assertEqual(answers(EIGHT_KINDS), answers(EIGHT_KINDS))

    def test_whole_numbers_are_ints_in_a_list(self):
        answered = answers(EIGHT_KINDS + say(8, 1) + read(0, 9, "") + gaps(0, 0, 0) + longest(0, 0, 0))
        self.assertIs(type(answered), list)
        self.assertEqual({type(number) for number in answered}, {int})

    def test_an_answer_that_is_changed_changes_no_other(self):
        first = answers(EIGHT_KINDS)
        second = list(first)
        first.clear()
        self.assertEqual(answers(EIGHT_KINDS), second)

    def test_refused_calls_do_not_shift_those_behind_them(self):
        calls = [rules(9, ENGLISH), rules(0, [word(0, "a" * 400)]), say(9, 1), read(9, 0, "abc"), gaps(9, 1, 2),
                 gaps(0, 2, 1), alike(9, 1, 2), alike(0, 2, 1), longest(9, 1, 2), longest(0, 2, 1),
                 in_order(9, [1, 2, 3]), in_order(0, [4] * 400), in_order(0, [10 ** 16, 5, 6]), begins(), say(0, 0)]
        self.assert_answers(calls, [[-1]] * 13 + [[0], [-6]])

    def test_no_call_but_begins_and_rules_changes_the_sets(self):
        asked = [say(0, 42), read(0, 99, "two"), gaps(0, 0, 9), alike(0, 0, 99), longest(0, 0, 9), in_order(0, [2, 0])]
        answered = [said("forty-two"), [1, 1, 2], [0, 0], [0], [0] + found(3, 5), [2, 2, 2, 0]]
        self.assert_answers([rules(0, ENGLISH)] + asked * 3, [[len(ENGLISH)]] + answered * 3)

    def test_it_prints_nothing(self):
        printed = io.StringIO()
        with contextlib.redirect_stdout(printed), contextlib.redirect_stderr(printed):
            answers(EIGHT_KINDS + say(8, 0) + longest(0, 0, 0))
        self.assertEqual(printed.getvalue(), "")


if __name__ == "__main__":
    unittest.main()
