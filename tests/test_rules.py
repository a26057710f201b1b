"""Promise 2: rules are the set's instead of those before, or are refused."""

from telling import HIGHEST, Case, letters, listed, q, r, read, rules, said, say, word


def ten(pieces, divisor=10):
    return (10, divisor, pieces)


GOOD = ten([q(0), letters("x"), r(0)])
OLD = [word(0, "old")]


class RulesTest(Case):
    def assert_taken(self, told_rules, by=0):
        self.assert_answers([rules(by, told_rules)], [[len(told_rules)]])

    def assert_refused(self, told_rules, by=0):
        """The rules are refused, and what the set had before is still there."""
        self.assert_answers([rules(0, OLD), rules(by, told_rules), say(0, 0), read(0, 9, "old")],
                            [[1], [-1], said("old"), listed(0)])

    def test_it_answers_how_many(self):
        self.assert_taken([word(0, "zero"), word(1, "one"), GOOD])

    def test_they_are_the_set_s_instead_of_those_before(self):
        calls = [rules(3, [word(0, "a"), word(1, "b")]), rules(3, [word(0, "c")]), say(3, 0), say(3, 1)]
        self.assert_answers(calls, [[2], [1], said("c"), [-6]])

    def test_no_rules_take_those_before_away(self):
        self.assert_answers([rules(3, [word(0, "a")]), rules(3, []), say(3, 0)], [[1], [0], [-6]])

    def test_other_sets_keep_theirs(self):
        calls = [rules(3, [word(0, "a")]), rules(4, [word(0, "b")]), say(3, 0), say(4, 0)]
        self.assert_answers(calls, [[1], [1], said("a"), said("b")])

    def test_set_7_is_there_and_set_8_is_not(self):
        self.assert_taken([word(0, "zero")], by=7)
        self.assert_refused([word(0, "zero")], by=8)
        self.assert_refused([], by=2 ** 64 - 1)

    def test_60_rules_and_61(self):
        self.assert_taken([word(n, "a") for n in range(60)])
        self.assert_refused([word(n, "a") for n in range(61)])
        self.assert_refused([word(n, "a") for n in range(70)])

    def test_8_pieces_and_9(self):
        self.assert_taken([(0, 0, [letters("a")] * 8)])
        self.assert_refused([(0, 0, [letters("a")] * 9)])
        self.assert_taken([ten([q(0), r(0)] + [letters("a")] * 6)])
        self.assert_refused([ten([q(0), r(0)] + [letters("a")] * 7)])
        self.assert_refused([ten([q(0), r(0)] + [letters("a")] * 8)])

    def test_40_bytes_and_41(self):
        self.assert_taken([word(0, "a" * 40)])
        self.assert_refused([word(0, "a" * 41)])
        self.assert_taken([ten([letters("a" * 40), r(0), letters("b" * 40, 4)])])
        self.assert_refused([ten([letters("a"), r(0), letters("b" * 41, 4)])])
        self.assert_refused([ten([letters("a" * 400), r(0)])])

    def test_base_highest_and_above(self):
        self.assert_taken([word(HIGHEST, "a")])
        self.assert_refused([word(HIGHEST + 1, "a")])
        self.assert_refused([word(2 ** 64 - 1, "a")])
        self.assert_taken([(HIGHEST, HIGHEST, [letters("a"), r(0)])])
        self.assert_refused([(HIGHEST + 1, 10, [letters("a"), r(0)])])

    def test_bases_rise_and_no_two_are_alike(self):
        self.assert_taken([word(3, "a"), word(4, "a")])
        self.assert_refused([word(3, "a"), word(3, "b")])
        self.assert_refused([word(4, "a"), word(3, "a")])
        self.assert_refused([word(1, "a"), word(5, "a"), word(4, "a")])

    def test_divisors_from_2_to_the_base(self):
        for divisor in (2, 9, 10):
            self.assert_taken([ten([letters("a"), r(0)], divisor)])
        for divisor in (1, 11, 2 ** 64 - 1):
            self.assert_refused([ten([letters("a"), r(0)], divisor)])
            self.assert_refused([ten([letters("a")], divisor)])
        self.assert_taken([(2, 2, [letters("a"), r(0)])])
        self.assert_refused([(1, 1, [letters("a"), r(0)])])
        self.assert_refused([(1, 2, [letters("a"), r(0)])])
        self.assert_refused([(0, 2, [letters("a"), r(0)])])

    def test_divisor_0_has_letters_alone(self):
        self.assert_taken([(0, 0, [])])
        self.assert_taken([(0, 0, [letters("")])])
        self.assert_taken([(0, 0, [letters("a"), letters("b")])])
        self.assert_refused([ten([letters("a"), q(0)], 0)])
        self.assert_refused([ten([letters("a"), r(0)], 0)])
        self.assert_refused([ten([letters("a"), q(0), r(0)], 0)])

    def test_divisor_0_has_letters_always(self):
        for stands in (1, 2, 3, 4):
            self.assert_refused([(5, 0, [letters("a"), letters("b", stands)])])

    def test_letters_stand_in_all_five_ways(self):
        for stands in range(5):
            self.assert_taken([ten([letters("a"), letters("b", stands), q(0), r(0)])])

    def test_q_stands_always_or_if_it_is_not_1(self):
        for stands in range(5):
            rule = ten([q(0, stands), letters("a"), r(0)])
            if stands in (0, 3):
                self.assert_taken([rule])
            else:
                self.assert_refused([rule])

    def test_r_stands_always_or_if_it_is_not_0(self):
        for stands in range(5):
            rule = ten([q(0), letters("a"), r(0, stands)])
            if stands in (0, 1):
                self.assert_taken([rule])
            else:
                self.assert_refused([rule])

    def test_q_stands_once_at_most(self):
        self.assert_taken([ten([letters("a"), r(0)])])
        self.assert_refused([ten([q(0), q(0), letters("a"), r(0)])])
        self.assert_refused([ten([q(0), q(1, 3), letters("a"), r(0)])])

    def test_r_stands_just_once(self):
        self.assert_refused([ten([letters("a")])])
        self.assert_refused([ten([])])
        self.assert_refused([ten([q(0), letters("a")])])
        self.assert_refused([ten([q(0), letters("a"), r(0), r(0)])])
        self.assert_refused([ten([letters("a"), r(0), r(1, 1)])])

    def test_some_letters_stand_always(self):
        self.assert_refused([ten([q(0), r(0)])])
        self.assert_refused([ten([q(0), letters(""), r(0)])])
        for stands in (1, 2, 3, 4):
            self.assert_refused([ten([q(0), letters("a", stands), r(0)])])
        self.assert_refused([ten([q(0), letters("a", 1), letters("b", 2), letters(""), r(0)])])
        self.assert_taken([ten([q(0), letters("a", 1), letters(""), letters("b"), r(0)])])

    def test_sets_that_pieces_name(self):
        self.assert_taken([ten([q(7), letters("a"), r(6)])])
        self.assert_refused([ten([q(8), letters("a"), r(0)])])
        self.assert_refused([ten([q(0), letters("a"), r(8)])])
        self.assert_refused([ten([q(2 ** 64 - 1), letters("a"), r(0)])])

    def test_one_wrong_rule_among_many_refuses_all(self):
        self.assert_refused([word(0, "new"), word(1, "one"), ten([letters("a")]), word(11, "eleven")])
        self.assert_refused([word(0, "new"), word(1, "one"), word(2, "a" * 41)])

    def test_calls_behind_a_refused_one_are_answered(self):
        calls = [rules(0, [GOOD, GOOD]), rules(0, [word(1, "one")]), say(0, 1)]
        self.assert_answers(calls, [[-1], [1], said("one")])
