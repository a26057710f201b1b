"""Promise 5, gaps: the numbers from a to b that aren't said."""

import random

from telling import (ENGLISH, GERMAN, HIGHEST, Case, ask, gaps, letters, listed, plainly_said, q, r, random_rules,
                     rules, said, say, word)

# Says 10 to 19 as ten and a digit that it knows; 20 and above aren't said, as q is no piece.
TEENS = [word(2, "two"), word(5, "five"), (10, 10, [letters("ten"), r(0, 1)])]


class GapsTest(Case):
    def assert_gaps(self, told_rules, runs):
        """The rules as set 0 leave out just these numbers of each run."""
        calls = [rules(0, told_rules)] + [gaps(0, a, b) for a, b in runs]
        self.assert_answers(calls, [[len(told_rules)]] + [listed(*numbers) for numbers in runs.values()])

    def test_a_language_without_gaps(self):
        self.assert_gaps(ENGLISH, {(0, 2999): [], (10 ** 9 - 5, 10 ** 9 + 5): [], (HIGHEST - 2999, HIGHEST): []})

    def test_gaps_rise(self):
        self.assert_gaps(TEENS, {(0, 22): [0, 1, 3, 4, 6, 7, 8, 9, 11, 13, 14, 16, 17, 18, 19, 20, 21, 22],
                                 (9, 13): [9, 11, 13]})

    def test_a_set_that_has_no_word_for_0(self):
        calls = [rules(by, GERMAN[by]) for by in GERMAN] + [gaps(0, 0, 999), gaps(1, 0, 999), gaps(1, 1, 999)]
        self.assertEqual(ask(*calls)[2:], [listed(), listed(0), listed()])

    def test_numbers_below_the_first_base(self):
        self.assert_gaps([word(3, "three"), word(4, "four")], {(0, 4): [0, 1, 2], (2, 3): [2], (0, 2): [0, 1, 2]})

    def test_other_numbers_than_the_base_of_divisor_0(self):
        self.assert_gaps([word(3, "three"), word(6, "six")], {(3, 8): [4, 5, 7, 8]})

    def test_a_q_or_an_r_that_is_not_said(self):
        told_rules = [word(1, "one"), word(2, "two"), (10, 10, [q(0), letters("ty"), r(0)])]
        self.assert_gaps(told_rules, {(9, 33): [9, 10] + list(range(13, 21)) + list(range(23, 34))})

    def test_a_text_of_no_bytes_is_no_gap(self):
        self.assert_gaps([(0, 0, []), (1, 0, [letters("")])], {(0, 2): [2]})

    def test_numbers_that_are_said_alike_are_no_gaps(self):
        self.assert_gaps([word(0, "a"), word(1, "a")], {(0, 2): [2]})

    def test_a_set_without_rules(self):
        self.assert_answers([gaps(0, 7, 9), gaps(7, HIGHEST, HIGHEST)], [listed(7, 8, 9), listed(HIGHEST)])

    def test_a_equal_to_b_and_above_it(self):
        self.assert_gaps(TEENS, {(2, 2): [], (3, 3): [3], (0, 0): [0]})
        self.assert_answers([gaps(0, 0, 0), gaps(0, 1, 0), gaps(0, 2 ** 64 - 1, 0), gaps(0, HIGHEST, HIGHEST - 1)],
                            [listed(0), [-1], [-1], [-1]])

    def test_b_highest_and_above(self):
        calls = [rules(0, [word(HIGHEST, "top")]), gaps(0, HIGHEST - 2, HIGHEST), gaps(0, HIGHEST, HIGHEST),
                 gaps(0, HIGHEST, HIGHEST + 1), gaps(0, HIGHEST + 1, HIGHEST + 1), gaps(0, 2 ** 64 - 1, 2 ** 64 - 1)]
        self.assert_answers(calls, [[1], listed(HIGHEST - 2, HIGHEST - 1), listed(), [-1], [-1], [-1]])

    def test_2999_apart_and_3000(self):
        calls = [gaps(0, 0, 2999), gaps(0, 0, 3000), gaps(0, 500, 3499), gaps(0, 500, 3500), gaps(0, 0, HIGHEST)]
        self.assert_answers(calls, [listed(*range(3000)), [-1], listed(*range(500, 3500)), [-1], [-1]])

    def test_set_7_and_set_8(self):
        calls = [rules(7, TEENS), gaps(7, 1, 2), gaps(8, 1, 2), gaps(2 ** 64 - 1, 1, 2)]
        self.assert_answers(calls, [[3], listed(1), [-1], [-1]])

    def test_it_asks_the_set_that_is_told(self):
        calls = [rules(0, [word(1, "a")]), rules(1, [word(2, "a")]), gaps(0, 1, 2), gaps(1, 1, 2), gaps(2, 1, 2)]
        self.assert_answers(calls, [[1], [1], listed(2), listed(1), listed(1, 2)])

    def test_all_is_as_it_was_behind_a_refusal(self):
        calls = [rules(0, TEENS), gaps(8, 0, 0), gaps(0, 1, 0), gaps(0, 0, 3000), say(0, 12), gaps(0, 11, 12)]
        self.assert_answers(calls, [[3], [-1], [-1], [-1], said("tentwo"), listed(11)])

    def test_random_rules_leave_out_what_the_words_of_the_document_leave_out(self):
        for seed in range(60):
            chance = random.Random(seed)
            sets = {by: random_rules(chance) for by in (0, 1)}
            runs = [sorted([chance.randrange(400), chance.randrange(400)]) for k in range(4)]
            answered = ask(rules(0, sets[0]), rules(1, sets[1]), *[gaps(k % 2, a, b) for k, (a, b) in enumerate(runs)])
            for k, (a, b) in enumerate(runs):
                numbers = [n for n in range(a, b + 1) if plainly_said(sets, k % 2, n) is None]
                self.assertEqual(answered[k + 2], listed(*numbers), (seed, a, b))
