"""Promise 3: say answers the text that a set says of a number, or -1, or -6."""

import random

from telling import (ENGLISH, GERMAN, HIGHEST, Case, ask, letters, plainly_said, q, r, random_rules, rules, said, say,
                     word)

DIGITS = [word(n, str(n)) for n in range(10)]


class SayTest(Case):
    def assert_said(self, told_rules, texts):
        """The rules as set 0 say these numbers so; None is for those that aren't said."""
        calls = [rules(0, told_rules)] + [say(0, n) for n in texts]
        expected = [[-6] if text is None else said(text) for text in texts.values()]
        self.assert_answers(calls, [[len(told_rules)]] + expected)

    def test_english(self):
        self.assert_said(ENGLISH, {
            0: "zero", 7: "seven", 19: "nineteen", 20: "twenty", 42: "forty-two", 100: "one hundred",
            101: "one hundred one", 999: "nine hundred ninety-nine", 1000: "one thousand",
            1000001: "one million one", 12345: "twelve thousand three hundred forty-five",
            HIGHEST: "one thousand trillion"})

    def test_german_with_another_form_before_a_noun(self):
        calls = [rules(by, GERMAN[by]) for by in GERMAN]
        texts = {1: "eins", 21: "einundzwanzig", 42: "zweiundvierzig", 101: "einhunderteins",
                 21021: "einundzwanzigtausendeinundzwanzig", 1000000: "eine Million.",
                 2000001: "zwei Millionen eins."}
        answered = ask(*calls, *[say(0, n) for n in texts])
        self.assertEqual(answered[2:], [said(text) for text in texts.values()])

    def test_no_such_set(self):
        self.assert_answers([say(7, 0), say(8, 0), say(2 ** 64 - 1, 0)], [[-6], [-1], [-1]])

    def test_highest_and_above(self):
        top = [rules(0, [word(HIGHEST, "top")])]
        calls = top + [say(0, HIGHEST), say(0, HIGHEST + 1), say(0, 2 ** 64 - 1)]
        self.assert_answers(calls, [[1], said("top"), [-1], [-1]])

    def test_a_set_without_rules_says_nothing(self):
        self.assert_answers([say(0, 0), say(0, HIGHEST)], [[-6], [-6]])

    def test_minus_1_is_answered_ahead_of_minus_6(self):
        self.assert_answers([say(0, HIGHEST + 1), say(8, 5)], [[-1], [-1]])

    def test_a_number_below_the_first_base(self):
        self.assert_said([word(5, "five")], {4: None, 0: None, 5: "five"})

    def test_divisor_0_says_its_base_alone(self):
        self.assert_said([word(5, "five"), word(8, "eight")], {5: "five", 6: None, 7: None, 8: "eight", 9: None})

    def test_a_text_of_no_bytes(self):
        calls = [rules(0, [(3, 0, []), (4, 0, [letters("")])]), say(0, 3), say(0, 4)]
        self.assert_answers(calls, [[2], [0, 0], [0, 0]])

    def test_bytes_of_every_kind(self):
        calls = [rules(0, [(0, 0, [(0, 0, [0, 255]), (0, 0, [10, 37])])]), say(0, 0)]
        self.assert_answers(calls, [[1], [0, 4, 0, 255, 10, 37]])

    def test_a_number_falls_to_the_last_rule_whose_base_is_not_above_it(self):
        self.assert_said(DIGITS + [(10, 10, [q(0), letters("a"), r(0)]), (25, 5, [q(0), letters("b"), r(0)])],
                         {10: "1a0", 24: "2a4", 25: "5b0", 29: "5b4", 30: "6b0"})

    def test_pieces_stand_as_told(self):
        pieces = [letters("-"), letters("r", 1), letters("0", 2), letters("q", 3), letters("1", 4), q(0, 3), r(0, 1)]
        self.assert_said(DIGITS + [(10, 10, pieces)], {10: "-01", 13: "-r13", 20: "-0q2", 23: "-rq23"})

    def test_pieces_that_stand_always(self):
        self.assert_said(DIGITS + [(10, 10, [r(0), letters("+"), q(0)])], {10: "0+1", 13: "3+1", 40: "0+4"})

    def test_q_that_is_not_1_and_no_piece(self):
        self.assert_said(DIGITS + [(10, 10, [letters("ten"), r(0, 1)])],
                         {10: "ten", 19: "ten9", 20: None, 25: None, HIGHEST: None})

    def test_q_that_is_no_piece_and_never_1(self):
        self.assert_said(DIGITS + [(10, 5, [letters("a"), r(0)])], {10: None, 11: None})

    def test_a_q_or_an_r_that_stands_and_is_not_said(self):
        by_words = [word(2, "two"), word(3, "three"), (10, 10, [q(0, 3), letters("ty"), r(0, 1)])]
        self.assert_said(by_words, {10: "ty", 12: "tytwo", 20: "twoty", 32: "threetytwo", 11: None, 40: None, 24: None})

    def test_an_r_of_0_that_stands_and_is_not_said(self):
        self.assert_said([word(1, "one"), (10, 10, [q(0), letters("ty"), r(0)])], {10: None, 11: "onetyone"})

    def test_a_set_that_has_no_rules_says_no_part(self):
        self.assert_said([word(1, "one"), (10, 10, [q(5, 3), letters("ty"), r(0, 1)])],
                         {10: "ty", 11: "tyone", 20: None})

    def test_rules_that_are_told_later_say_the_parts(self):
        ten = [(10, 10, [letters("ty"), r(1)])]
        calls = [rules(0, ten), say(0, 11), rules(1, [word(1, "a")]), say(0, 11), rules(1, [word(1, "b")]), say(0, 11)]
        self.assert_answers(calls, [[1], [-6], [1], said("tya"), [1], said("tyb")])

    def test_the_deepest_number(self):
        binary = [word(0, ""), word(1, "1"), (2, 2, [q(0), letters("."), r(0)])]
        n = 2 ** 49 - 1
        self.assert_said(binary, {n: "1" + ".1" * 48})

    def test_random_rules_say_what_the_words_of_the_document_say(self):
        for seed in range(60):
            chance = random.Random(seed)
            sets = {by: random_rules(chance) for by in (0, 1)}
            numbers = [chance.randrange(400) for k in range(40)]
            answered = ask(rules(0, sets[0]), rules(1, sets[1]), *[say(k % 2, n) for k, n in enumerate(numbers)])
            for k, n in enumerate(numbers):
                text = plainly_said(sets, k % 2, n)
                self.assertEqual(answered[k + 2], [-6] if text is None else [0, len(text)] + text, (seed, n))
