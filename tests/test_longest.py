"""Promise 5, longest: the number from a to b with the longest text, of equal ones the least; -6 if none is said."""

import random

from telling import (ENGLISH, HIGHEST, Case, ask, found, letters, longest, plainly_said, q, r, random_rules, rules,
                     said, say, word)

WORDS = [word(2, "bb"), word(4, "dddd"), word(5, "eeee"), word(6, "f"), word(7, "gggg")]


class LongestTest(Case):
    def assert_longest(self, told_rules, runs):
        """The rules as set 0 say this number of each run with the longest text, or none of them."""
        calls = [rules(0, told_rules)] + [longest(0, a, b) for a, b in runs]
        expected = [[0] + found(*numbers) if numbers else [-6] for numbers in runs.values()]
        self.assert_answers(calls, [[len(told_rules)]] + expected)

    def test_english(self):
        self.assert_longest(ENGLISH, {
            (0, 9): [3, len("three")], (0, 99): [73, len("seventy-three")],
            (0, 999): [373, len("three hundred seventy-three")], (40, 45): [43, len("forty-three")],
            (HIGHEST - 1, HIGHEST): [HIGHEST - 1, len(
                "nine hundred ninety-nine trillion nine hundred ninety-nine billion nine hundred ninety-nine million"
                " nine hundred ninety-nine thousand nine hundred ninety-nine")]})

    def test_of_equal_ones_the_least(self):
        self.assert_longest(WORDS, {(0, 9): [4, 4], (5, 9): [5, 4], (6, 9): [7, 4], (5, 5): [5, 4]})

    def test_a_longer_one_at_either_end(self):
        self.assert_longest(WORDS, {(2, 4): [4, 4], (4, 6): [4, 4], (2, 3): [2, 2], (6, 6): [6, 1], (3, 3): []})

    def test_numbers_that_are_not_said_do_not_count(self):
        told_rules = [word(1, "x"), (10, 10, [letters("a long word"), r(0)])]
        self.assert_longest(told_rules, {(0, 10): [1, 1], (0, 20): [11, 12], (12, 20): [], (2, 9): []})

    def test_bytes_are_counted_not_signs(self):
        self.assert_longest([(0, 0, [(0, 0, [195, 164, 195, 164])]), word(1, "abc")], {(0, 1): [0, 4]})

    def test_texts_of_no_bytes_are_said(self):
        self.assert_longest([(3, 0, []), (4, 0, [letters("")]), word(5, "a")],
                            {(0, 4): [3, 0], (4, 4): [4, 0], (3, 9): [5, 1], (0, 2): []})

    def test_very_long_texts(self):
        long = [letters("x" * 40)] * 6
        told_rules = [(0, 0, [letters("a" * 40)] * 8), (1, 0, [letters("b" * 40)] * 8), (2, 2, [q(0), r(0)] + long)]
        n = 2 ** 49 - 1
        self.assert_longest(told_rules, {(n - 1, n): [n - 1, 49 * 320 + 48 * 240]})

    def test_a_set_without_rules(self):
        self.assert_answers([longest(0, 0, 2999), longest(7, 0, 0)], [[-6], [-6]])

    def test_numbers_below_the_first_base(self):
        self.assert_longest([word(5, "five")], {(0, 4): [], (0, 5): [5, 4], (6, 9): []})

    def test_a_equal_to_b_and_above_it(self):
        self.assert_longest(WORDS, {(2, 2): [2, 2], (0, 0): []})
        self.assert_answers([rules(0, WORDS), longest(0, 5, 4), longest(0, 2 ** 64 - 1, 4)], [[5], [-1], [-1]])

    def test_b_highest_and_above(self):
        calls = [rules(0, [word(HIGHEST, "top")]), longest(0, HIGHEST - 2999, HIGHEST), longest(0, HIGHEST, HIGHEST),
                 longest(0, HIGHEST, HIGHEST + 1), longest(0, HIGHEST + 1, HIGHEST + 1), longest(0, 0, 2 ** 64 - 1)]
        self.assert_answers(calls, [[1], [0] + found(HIGHEST, 3), [0] + found(HIGHEST, 3), [-1], [-1], [-1]])

    def test_2999_apart_and_3000(self):
        calls = [rules(0, [word(0, "a"), word(2999, "bb"), word(3000, "ccc")]), longest(0, 0, 2999),
                 longest(0, 0, 3000), longest(0, 1, 3000)]
        self.assert_answers(calls, [[3], [0] + found(2999, 2), [-1], [0] + found(3000, 3)])

    def test_set_7_and_set_8(self):
        calls = [rules(7, WORDS), longest(7, 0, 9), longest(8, 0, 9), longest(2 ** 64 - 1, 0, 9)]
        self.assert_answers(calls, [[5], [0] + found(4, 4), [-1], [-1]])

    def test_what_may_not_be_asked_is_answered_minus_1_where_none_is_said_too(self):
        self.assert_answers([longest(0, 1, 0), longest(0, 0, 3000), longest(0, HIGHEST, HIGHEST + 1), longest(8, 0, 0)],
                            [[-1], [-1], [-1], [-1]])

    def test_it_asks_the_set_that_is_told(self):
        calls = [rules(0, [word(1, "a")]), rules(1, [word(1, "bb")]), longest(0, 0, 9), longest(1, 0, 9),
                 longest(2, 0, 9)]
        self.assert_answers(calls, [[1], [1], [0] + found(1, 1), [0] + found(1, 2), [-6]])

    def test_all_is_as_it_was_behind_a_refusal(self):
        calls = [rules(0, WORDS), longest(8, 0, 0), longest(0, 1, 0), longest(0, 0, 3000), longest(0, 0, 1), say(0, 2),
                 longest(0, 0, 3)]
        self.assert_answers(calls, [[5], [-1], [-1], [-1], [-6], said("bb"), [0] + found(2, 2)])

    def test_random_rules_are_longest_as_the_words_of_the_document_say(self):
        for seed in range(60):
            chance = random.Random(seed)
            sets = {by: random_rules(chance) for by in (0, 1)}
            runs = [(a, a + chance.randrange(60)) for a in [chance.randrange(400) for k in range(6)]]
            answered = ask(rules(0, sets[0]), rules(1, sets[1]),
                           *[longest(k % 2, a, b) for k, (a, b) in enumerate(runs)])
            for k, (a, b) in enumerate(runs):
                texts = {n: plainly_said(sets, k % 2, n) for n in range(a, b + 1)}
                lengths = [(-len(text), n) for n, text in texts.items() if text is not None]
                expected = [0] + found(min(lengths)[1], -min(lengths)[0]) if lengths else [-6]
                self.assertEqual(answered[k + 2], expected, (seed, a, b))
