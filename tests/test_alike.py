"""Promise 5, alike: the first number from a to b whose text a lesser one from a on has, and the least such."""

import random

from telling import (ENGLISH, HIGHEST, Case, alike, ask, found, gaps, letters, plainly_said, q, r, random_rules, rules,
                     said, say, word)

# 1 and 4 and 6 are said alike, and 2 and 3.
ALIKE = [word(1, "a"), word(2, "b"), word(3, "b"), word(4, "a"), word(5, "c"), word(6, "a")]


class AlikeTest(Case):
    def assert_alike(self, told_rules, runs):
        """The rules as set 0 have these two numbers in each run, or none."""
        calls = [rules(0, told_rules)] + [alike(0, a, b) for a, b in runs]
        expected = [[1] + found(*numbers) if numbers else [0] for numbers in runs.values()]
        self.assert_answers(calls, [[len(told_rules)]] + expected)

    def test_a_language_that_says_none_alike(self):
        self.assert_alike(ENGLISH, {(0, 2999): [], (10 ** 6 - 2999, 10 ** 6): [], (HIGHEST - 2999, HIGHEST): []})

    def test_the_first_number_whose_text_a_lesser_one_has(self):
        self.assert_alike(ALIKE, {(0, 9): [3, 2], (1, 6): [3, 2], (1, 3): [3, 2], (1, 2): [], (5, 9): []})

    def test_a_lesser_one_ahead_of_a_does_not_count(self):
        self.assert_alike(ALIKE, {(2, 4): [3, 2], (3, 4): [], (3, 6): [6, 4], (5, 6): [], (4, 5): []})

    def test_the_lesser_one_is_a_itself(self):
        self.assert_alike(ALIKE, {(4, 6): [6, 4], (2, 3): [3, 2]})
        self.assert_alike([word(1, "a"), word(4, "a")], {(1, 4): [4, 1], (1, 3): [], (2, 4): []})

    def test_the_first_of_several_and_the_least_lesser_one(self):
        five = [word(n, "x") for n in range(10, 15)]
        self.assert_alike(five, {(0, 99): [11, 10], (11, 14): [12, 11], (13, 14): [14, 13], (14, 99): []})

    def test_not_the_first_pair_by_its_lesser_number(self):
        self.assert_alike([word(0, "far"), word(1, "near"), word(2, "near"), word(3, "far")], {(0, 3): [2, 1]})

    def test_parts_that_make_the_same_text(self):
        digits = [word(1, "a"), word(2, "aa"), (10, 10, [q(0), letters("b"), r(0)]), (30, 10, [letters("c"), r(0)])]
        self.assert_alike(digits, {(0, 99): []})
        told_rules = [word(1, "a"), word(2, "aa"), (10, 10, [q(0), letters("a"), r(0)])]
        self.assert_alike(told_rules, {(0, 99): [21, 12], (12, 99): [21, 12], (13, 99): []})

    def test_same_bytes_in_another_order_and_longer_texts_are_not_alike(self):
        self.assert_alike([word(0, "ab"), word(1, "ba"), word(2, "a"), word(3, "aba"), word(4, "AB")], {(0, 9): []})
        self.assert_alike([(0, 0, [(0, 0, [0])]), (1, 0, [(0, 0, [0, 0])]), (2, 0, [])], {(0, 9): []})

    def test_texts_of_no_bytes(self):
        self.assert_alike([(3, 0, []), word(4, "a"), (5, 0, [letters("")])], {(0, 9): [5, 3], (4, 9): []})

    def test_numbers_that_are_not_said_are_not_alike(self):
        self.assert_alike([word(5, "five")], {(0, 9): [], (6, 9): [], (0, 4): []})

    def test_a_set_without_rules(self):
        self.assert_answers([alike(0, 0, 2999), alike(7, 0, 0)], [[0], [0]])

    def test_a_equal_to_b_and_above_it(self):
        self.assert_alike(ALIKE, {(3, 3): [], (0, 0): []})
        self.assert_answers([rules(0, ALIKE), alike(0, 3, 2), alike(0, 2 ** 64 - 1, 3)], [[6], [-1], [-1]])

    def test_b_highest_and_above(self):
        calls = [rules(0, [word(HIGHEST - 1, "top"), word(HIGHEST, "top")]), alike(0, HIGHEST - 1, HIGHEST),
                 alike(0, HIGHEST - 1, HIGHEST + 1), alike(0, HIGHEST + 1, HIGHEST + 1), alike(0, 0, 2 ** 64 - 1)]
        self.assert_answers(calls, [[2], [1] + found(HIGHEST, HIGHEST - 1), [-1], [-1], [-1]])

    def test_2999_apart_and_3000(self):
        calls = [rules(0, [word(1, "a"), word(3000, "a"), word(3001, "a")]), alike(0, 1, 3000), alike(0, 1, 3001),
                 alike(0, 2, 3001), alike(0, 0, 2999)]
        self.assert_answers(calls, [[3], [1] + found(3000, 1), [-1], [1] + found(3001, 3000), [0]])

    def test_set_7_and_set_8(self):
        calls = [rules(7, ALIKE), alike(7, 0, 9), alike(8, 0, 9), alike(2 ** 64 - 1, 0, 9)]
        self.assert_answers(calls, [[6], [1] + found(3, 2), [-1], [-1]])

    def test_it_asks_the_set_that_is_told(self):
        calls = [rules(0, [word(1, "a"), word(2, "a")]), rules(1, [word(1, "a"), word(3, "a")]),
                 alike(0, 0, 9), alike(1, 0, 9), alike(2, 0, 9)]
        self.assert_answers(calls, [[2], [2], [1] + found(2, 1), [1] + found(3, 1), [0]])

    def test_all_is_as_it_was_behind_a_refusal(self):
        calls = [rules(0, ALIKE), alike(8, 0, 0), alike(0, 1, 0), alike(0, 0, 3000), say(0, 5), gaps(0, 0, 1),
                 alike(0, 0, 9)]
        self.assert_answers(calls, [[6], [-1], [-1], [-1], said("c"), [1, 1, 0], [1] + found(3, 2)])

    def test_random_rules_are_alike_as_the_words_of_the_document_say(self):
        for seed in range(80):
            chance = random.Random(seed)
            sets = {by: random_rules(chance) for by in (0, 1)}
            runs = [(a, a + chance.randrange(60)) for a in [chance.randrange(400) for k in range(6)]]
            answered = ask(rules(0, sets[0]), rules(1, sets[1]), *[alike(k % 2, a, b) for k, (a, b) in enumerate(runs)])
            for k, (a, b) in enumerate(runs):
                texts = {n: plainly_said(sets, k % 2, n) for n in range(a, b + 1)}
                pairs = [[n, lesser] for n in texts for lesser in range(a, n)
                         if texts[n] is not None and texts[lesser] == texts[n]]
                expected = [1] + found(*min(pairs)) if pairs else [0]
                self.assertEqual(answered[k + 2], expected, (seed, a, b))
