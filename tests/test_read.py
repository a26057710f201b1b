"""Promise 4: read answers all numbers up to most that say a text, and just these."""

import random

from telling import (ENGLISH, GERMAN, HIGHEST, Case, ask, letters, listed, plainly_said, q, r, random_rules, read, rules,
                     said, say, word)

def blurred(by):
    """Rules of a set that says each digit alike, so that a text is read as every number with as many digits."""
    return [word(n, "a") for n in range(10)] + [(10, 10, [q(by), letters("x"), r(by)])]


class ReadTest(Case):
    def assert_read(self, told_rules, texts, most=HIGHEST):
        """The rules as set 0 read these texts as these numbers."""
        calls = [rules(0, told_rules)] + [read(0, most, text) for text in texts]
        self.assert_answers(calls, [[len(told_rules)]] + [listed(*numbers) for numbers in texts.values()])

    def test_english(self):
        self.assert_read(ENGLISH, {
            "zero": [0], "nineteen": [19], "forty-two": [42], "one hundred one": [101],
            "nine hundred ninety-nine billion one": [999000000001], "one thousand trillion": [HIGHEST],
            "": [], "forty-": [], "forty-twox": [], "xforty-two": [], "forty zero": [], "ten hundred": []})

    def test_english_that_is_said_is_read(self):
        chance = random.Random(1)
        numbers = [chance.randrange(10 ** chance.randint(1, 15)) for k in range(40)]
        texts = [answer[2:] for answer in ask(rules(0, ENGLISH), *[say(0, n) for n in numbers])[1:]]
        answered = ask(rules(0, ENGLISH), *[read(0, HIGHEST, text) for text in texts])[1:]
        self.assertEqual(answered, [listed(n) for n in numbers])

    def test_german_by_two_sets(self):
        asked = [(0, "zweiundvierzig", [42]), (0, "einhunderteins", [101]), (0, "ein", []), (1, "ein", [1]),
                 (1, "eins", []), (0, "zwei Millionen eins.", [2000001])]
        calls = [rules(by, GERMAN[by]) for by in GERMAN] + [read(by, HIGHEST, text) for by, text, numbers in asked]
        self.assertEqual(ask(*calls)[2:], [listed(*numbers) for by, text, numbers in asked])

    def test_no_such_set(self):
        self.assert_answers([read(7, 9, "a"), read(8, 9, "a"), read(2 ** 64 - 1, 9, "a")], [listed(), [-1], [-1]])

    def test_most_highest_and_above(self):
        calls = [rules(0, [word(HIGHEST, "top")])]
        calls += [read(0, most, "top") for most in (HIGHEST - 1, HIGHEST, HIGHEST + 1, 2 ** 64 - 1)]
        self.assert_answers(calls, [[1], listed(), listed(HIGHEST), [-1], [-1]])

    def test_300_bytes_and_301(self):
        pieces = [letters("a" * 40)] * 7 + [letters("a" * 20)]
        self.assert_answers([rules(0, [(6, 0, pieces)]), read(0, 9, "a" * 300), read(0, 9, "a" * 301),
                             read(0, 9, "a" * 299), read(0, 9, "a" * 400)], [[1], listed(6), [-1], listed(), [-1]])

    def test_a_text_of_no_bytes(self):
        self.assert_read([(3, 0, []), word(4, "a"), (5, 0, [letters("")])], {"": [3, 5], "a": [4]})
        self.assert_read([], {"": []})

    def test_a_set_without_rules_reads_nothing(self):
        self.assert_read([], {"a": [], "zero": []})

    def test_a_text_that_is_longer_than_any(self):
        self.assert_read([word(0, "a")], {"aa": [], "a": [0]})

    def test_most_is_read_too_and_none_above(self):
        told_rules = [word(n, "a") for n in range(10)]
        for most in (0, 4, 9):
            self.assert_read(told_rules, {"a": list(range(most + 1))}, most)

    def test_many_numbers_rise(self):
        self.assert_read(blurred(0), {"a": list(range(10)), "axa": list(range(10, 100)), "axaxa": list(range(100, 1000))})
        self.assert_read(blurred(0), {"axaxa": list(range(100, 568))}, 567)
        self.assert_read(blurred(0), {"axaxa": []}, 99)

    def test_texts_whose_parts_can_be_more_numbers_than_can_be_gone_through(self):
        self.assert_read(blurred(0), {"a" + "xa" * 14 + "x": [], "a" + "xa" * 149: [], "a" + "xa" * 14: []}, 10 ** 14 - 1)
        top = [word(7, "s"), (HIGHEST - 3, 5, [q(1), letters("!"), r(0)])]
        calls = [rules(1, blurred(1)), rules(0, top), read(0, HIGHEST, "a" + "xa" * 14 + "!s"), say(0, HIGHEST),
                 rules(0, [word(2, "s")] + top[1:]), read(0, HIGHEST, "a" + "xa" * 14 + "!s")]
        self.assert_answers(calls, [[11], [2], listed(), [-6], [2], listed(HIGHEST - 3)])

    def test_texts_with_very_many_ways_to_be_parted(self):
        alike = [word(0, "a"), word(1, "aa"), word(2, "a"), (3, 2, [q(0), letters("a"), letters("aa", 1), r(0)])]
        numbers = [n for n in range(3000) if plainly_said({0: alike}, 0, n) == [97] * 20]
        self.assertGreater(len(numbers), 20)
        self.assert_read(alike, {"a" * 20: numbers}, 2999)
        self.assert_read(alike, {"a" * 299 + "b": [], "a" * 300: []})

    def test_only_numbers_of_a_rule_s_own_are_read(self):
        digits = [word(n, str(n)) for n in range(10)]
        told_rules = digits + [(13, 10, [q(0), letters("a"), r(0)]), (27, 10, [q(0), letters("b"), r(0)]),
                               (35, 0, [letters("c")])]
        self.assert_read(told_rules, {"1a2": [], "1a3": [13], "1a9": [19], "2a0": [20], "2a6": [26], "2a7": [],
                                      "2b6": [], "2b7": [27], "3b4": [34], "3b5": [], "3a0": [], "c": [35]})

    def test_a_rule_that_begins_and_ends_within_a_q(self):
        digits = [word(n, str(n)) for n in range(10)]
        told_rules = digits + [(13, 10, [q(0), letters("a"), r(0)]), (39, 0, [letters("c")])]
        self.assert_read(told_rules, {"1a2": [], "1a3": [13], "2a0": [20], "2a5": [25], "2a9": [29], "3a0": [30],
                                      "3a8": [38], "3a9": [], "c": [39]})
        self.assert_read(told_rules, {"1a9": [19], "2a0": [20], "2a8": [28], "2a9": [], "3a0": []}, 28)

    def test_a_narrow_rule_between_two_others(self):
        digits = [word(n, str(n)) for n in range(10)]
        told_rules = digits + [(10, 10, [q(0), letters("a"), r(0)]), (52, 10, [q(0), letters("b"), r(0)]),
                               (55, 10, [q(0), letters("a"), r(0)])]
        self.assert_read(told_rules, {"5a1": [51], "5a2": [], "5a4": [], "5a5": [55], "5b1": [], "5b2": [52],
                                      "5b4": [54], "5b5": [], "6b3": []})

    def test_q_of_1_and_others(self):
        digits = [word(n, str(n)) for n in range(10)]
        told_rules = digits + [(10, 10, [q(0, 3), letters("t"), r(0, 1), letters("!", 4)])]
        self.assert_read(told_rules, {"t!": [10], "1t!": [], "t3!": [13], "2t": [20], "2t3": [23], "2t0": [], "t": [],
                                      "2t!": []})

    def test_q_that_is_no_piece_is_1(self):
        told_rules = [word(3, "x"), (10, 10, [letters("t"), r(0)])]
        self.assert_read(told_rules, {"tx": [13]})
        self.assert_read([word(3, "x"), (20, 10, [letters("t"), r(0)])], {"tx": []})

    def test_it_reads_by_the_rules_as_they_are_then(self):
        calls = [rules(0, [word(1, "a")]), read(0, 9, "a"), rules(0, [word(2, "a")]), read(0, 9, "a"),
                 rules(0, [word(3, "a"), word(3, "a")]), read(0, 9, "a"), [0], read(0, 9, "a")]
        self.assert_answers(calls, [[1], listed(1), [1], listed(2), [-1], listed(2), [0], listed()])

    def test_the_deepest_number(self):
        binary = [word(0, ""), word(1, "1"), (2, 2, [q(0), letters("."), r(0)])]
        n = 2 ** 49 - 1
        calls = [rules(0, binary), say(0, n), read(0, HIGHEST, "1" + ".1" * 48)]
        self.assert_answers(calls, [[3], said("1" + ".1" * 48), listed(n)])

    def test_random_rules_read_what_the_words_of_the_document_say(self):
        for seed in range(80):
            chance = random.Random(seed)
            sets = {by: random_rules(chance) for by in (0, 1)}
            texts = {by: [plainly_said(sets, by, n) for n in range(600)] for by in sets}
            asked = [(k % 2, chance.randrange(600), chance.choice(texts[k % 2])) for k in range(30)]
            asked = [(by, most, text) for by, most, text in asked if text is not None and len(text) <= 300]
            answered = ask(rules(0, sets[0]), rules(1, sets[1]), *[read(*one) for one in asked])[2:]
            for (by, most, text), answer in zip(asked, answered):
                numbers = [n for n in range(most + 1) if texts[by][n] == text]
                self.assertEqual(answer, listed(*numbers), (seed, by, most, text))
