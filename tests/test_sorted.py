"""Promise 6: sorted answers the numbers in the order of their texts, those that aren't said last."""

import random

from telling import (ENGLISH, GERMAN, HIGHEST, Case, ask, in_order, letters, listed, plainly_said, q, r, random_rules,
                     rules, said, say, word)


def bytes_word(base, *numbers):
    return (base, 0, [(0, 0, list(numbers))])


class SortedTest(Case):
    def assert_sorted(self, told_rules, *orders):
        """The rules as set 0 put numbers into each of these orders, from whatever order they are told in."""
        chance = random.Random(7)
        for expected in orders:
            mixed = chance.sample(expected, len(expected))
            calls = [rules(0, told_rules)] + [in_order(0, told) for told in (expected, expected[::-1], mixed)]
            self.assert_answers(calls, [[len(told_rules)]] + [listed(*expected)] * 3)

    def test_english(self):
        self.assert_sorted(ENGLISH, [8, 11, 5, 4, 9, 1, 7, 6, 10, 3, 12, 2, 0], [40, 43, 42, 100, 101, 1000, 20, 22])

    def test_german(self):
        calls = [rules(by, GERMAN[by]) for by in GERMAN] + [in_order(0, [1, 2, 3, 21, 32, 100]), in_order(1, [0, 2, 1])]
        self.assertEqual(ask(*calls)[2:], [listed(3, 100, 1, 21, 2, 32), listed(1, 2, 0)])

    def test_no_numbers(self):
        self.assert_answers([in_order(0, []), rules(0, ENGLISH), in_order(0, [])],
                            [listed(), [len(ENGLISH)], listed()])

    def test_one_number(self):
        self.assert_sorted(ENGLISH, [42], [0], [HIGHEST])

    def test_a_beginning_stands_first(self):
        self.assert_sorted([word(1, "abc"), word(2, "ab"), word(3, "b"), word(4, "a"), word(5, "abb")],
                           [4, 2, 5, 1, 3])
        self.assert_sorted([bytes_word(1, 97, 0), bytes_word(2, 97), bytes_word(3, 97, 0, 0), bytes_word(4, 96, 255)],
                           [4, 2, 1, 3])

    def test_a_text_of_no_bytes_stands_ahead_of_all_others(self):
        self.assert_sorted([bytes_word(1, 0), bytes_word(2), word(3, "a")], [2, 1, 3, 0])

    def test_longer_texts_are_not_greater_for_that(self):
        self.assert_sorted([word(1, "b"), word(2, "aaaa"), word(3, "aab")], [2, 3, 1])

    def test_bytes_above_127_and_other_bytes(self):
        self.assert_sorted([bytes_word(1, 255), bytes_word(2, 128), bytes_word(3, 127), bytes_word(4, 122),
                            bytes_word(5, 90), bytes_word(6, 48), bytes_word(7, 9), bytes_word(8, 0),
                            bytes_word(9, 100), bytes_word(10, 195, 164), bytes_word(11, 195, 1)],
                           [8, 7, 6, 5, 9, 4, 3, 2, 11, 10, 1])

    def test_of_alike_texts_the_lesser_number_first(self):
        self.assert_sorted([word(1, "b"), word(2, "a"), word(3, "b"), word(4, "a"), word(50, "b"), word(600, "b")],
                           [2, 4, 1, 3, 50, 600])

    def test_alike_texts_by_other_parts(self):
        self.assert_sorted([word(1, "a"), word(2, "aa"), (10, 10, [q(0), letters("a"), r(0)])], [1, 2, 11, 12, 21, 22])

    def test_the_same_number_twice(self):
        self.assert_sorted(ENGLISH, [8, 8, 1, 1, 1, 3], [0, 0])
        self.assert_sorted([word(1, "b"), word(2, "a"), word(3, "b")], [2, 2, 1, 1, 3, 3, 0, 0, 9])

    def test_those_that_are_not_said_stand_last_rising(self):
        self.assert_sorted([word(5, "z"), word(7, "y"), bytes_word(8, 255, 255)], [7, 5, 8, 0, 4, 6, 9, 100, HIGHEST])

    def test_a_set_without_rules(self):
        self.assert_sorted([], [0, 2, 10, 11, 100, HIGHEST], [3, 3])

    def test_200_numbers_and_201(self):
        numbers = list(range(200))
        calls = [in_order(0, numbers[::-1]), in_order(0, numbers + [200]), in_order(0, [5] * 200),
                 in_order(0, [5] * 201), in_order(0, [5] * 400)]
        self.assert_answers(calls, [listed(*numbers), [-1], listed(*[5] * 200), [-1], [-1]])

    def test_highest_and_above(self):
        calls = [rules(0, [word(HIGHEST, "top")]), in_order(0, [1, HIGHEST]), in_order(0, [HIGHEST + 1]),
                 in_order(0, [1, HIGHEST + 1, 2]), in_order(0, [2 ** 64 - 1, 1]), in_order(0, [1, 2 ** 64 - 1])]
        self.assert_answers(calls, [[1], listed(HIGHEST, 1), [-1], [-1], [-1], [-1]])

    def test_set_7_and_set_8(self):
        calls = [rules(7, [word(2, "a"), word(3, "b")]), in_order(7, [4, 3, 2]), in_order(8, [4, 3, 2]),
                 in_order(8, []), in_order(2 ** 64 - 1, [1])]
        self.assert_answers(calls, [[2], listed(2, 3, 4), [-1], [-1], [-1]])

    def test_it_asks_the_set_that_is_told(self):
        calls = [rules(0, [word(1, "b"), word(2, "a")]), rules(1, [word(1, "a"), word(2, "b")]),
                 in_order(0, [1, 2, 3]), in_order(1, [1, 2, 3]), in_order(2, [3, 2, 1])]
        self.assert_answers(calls, [[2], [2], listed(2, 1, 3), listed(1, 2, 3), listed(1, 2, 3)])

    def test_all_is_as_it_was_behind_a_refusal(self):
        calls = [rules(0, [word(1, "b"), word(2, "a")]), in_order(8, [1]), in_order(0, [1] * 201),
                 in_order(0, [HIGHEST + 1]), say(0, 1), in_order(0, [1, 2])]
        self.assert_answers(calls, [[2], [-1], [-1], [-1], said("b"), listed(2, 1)])

    def test_random_rules_put_in_order_as_the_words_of_the_document_say(self):
        for seed in range(60):
            chance = random.Random(seed)
            sets = {by: random_rules(chance) for by in (0, 1)}
            asked = [[chance.randrange(400) for k in range(chance.randrange(60))] for k in range(4)]
            answered = ask(rules(0, sets[0]), rules(1, sets[1]),
                           *[in_order(k % 2, numbers) for k, numbers in enumerate(asked)])
            for k, numbers in enumerate(asked):
                texts = {n: plainly_said(sets, k % 2, n) for n in numbers}
                expected = sorted([n for n in numbers if texts[n] is not None], key=lambda n: (bytes(texts[n]), n))
                expected += sorted([n for n in numbers if texts[n] is None])
                self.assertEqual(answered[k + 2], listed(*expected), (seed, numbers))
