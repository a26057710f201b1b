"""The interface: how calls and answers are told, and that nothing is kept or changed."""

import contextlib
import io
import unittest

from saidnumbers.sets import answers
from telling import ENGLISH, Case, ask, begins, read, rules, say, word


class InterfaceTest(Case):
    def test_a_whole_line_in_numbers(self):
        calls = [1, 2, 22, 2,
                 4, 0, 1, 0, 0, 2, 104, 105,
                 6, 3, 3, 3, 1, 7, 0, 0, 1, 33, 1, 2, 2]
        calls += [2, 2, 4,
                  2, 2, 5,
                  3, 2, 9, 2, 104, 105,
                  3, 2, 9, 0,
                  0]
        self.assertEqual(answers(calls), [1, 2,
                                          4, 0, 2, 104, 105,
                                          1, -6,
                                          3, 1, 1, 4,
                                          2, 0, 0,
                                          1, 0])

    def test_lists_of_none_are_told_with_their_length(self):
        self.assertEqual(answers(rules(0, [(0, 0, [])]) + say(0, 0) + read(0, 5, "a")), [1, 1, 2, 0, 0, 2, 0, 0])

    def test_begins_and_refusals_are_one_number(self):
        self.assertEqual(answers(begins() + say(8, 0) + say(0, 0)), [1, 0, 1, -1, 1, -6])

    def test_60_calls(self):
        self.assertEqual(answers(begins() * 60), [1, 0] * 60)

    def test_the_list_is_not_changed(self):
        calls = rules(0, ENGLISH) + say(0, 42) + read(0, 99, "ten") + rules(0, ENGLISH[::-1]) + begins()
        before = list(calls)
        answers(calls)
        self.assertEqual(calls, before)

    def test_each_time_is_as_if_for_the_first(self):
        self.assertEqual(ask(rules(0, [word(0, "zero")]), say(0, 0)), ask(rules(0, [word(0, "zero")]), say(0, 0)))
        self.assertEqual(ask(say(0, 0), read(0, 9, "zero")), [[-6], [0, 0]])

    def test_whole_numbers_are_ints_in_a_list(self):
        answered = answers(rules(0, ENGLISH) + say(0, 1) + say(8, 1) + read(0, 9, "one") + read(0, 9, "") + begins())
        self.assertIs(type(answered), list)
        self.assertEqual({type(number) for number in answered}, {int})

    def test_an_answer_that_is_changed_changes_no_other(self):
        calls = rules(0, ENGLISH) + say(0, 3) + read(0, 9, "three")
        first = answers(calls)
        second = list(first)
        first.clear()
        self.assertEqual(answers(calls), second)

    def test_refused_calls_do_not_shift_those_behind_them(self):
        calls = [rules(9, ENGLISH), rules(0, [word(0, "a" * 400)]), say(9, 1), read(9, 0, "abc"), begins(), say(0, 0)]
        self.assert_answers(calls, [[-1], [-1], [-1], [-1], [0], [-6]])

    def test_it_prints_nothing(self):
        printed = io.StringIO()
        with contextlib.redirect_stdout(printed), contextlib.redirect_stderr(printed):
            ask(rules(0, ENGLISH), say(0, 42), read(0, 99, "forty-two"), say(8, 0))
        self.assertEqual(printed.getvalue(), "")


if __name__ == "__main__":
    unittest.main()
