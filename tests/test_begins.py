"""Promise 1: begins is as at a line's beginning."""

from telling import Case, begins, letters, listed, q, r, read, rules, said, say, word


class BeginsTest(Case):
    def test_it_answers_0(self):
        self.assert_answers([begins(), begins()], [[0], [0]])

    def test_in_the_middle_of_a_line_it_takes_every_set_away(self):
        calls = [rules(by, [word(5, "five")]) for by in range(8)]
        calls += [begins()]
        calls += [say(by, 5) for by in range(8)]
        calls += [read(by, 10, "five") for by in range(8)]
        self.assert_answers(calls, [[1]] * 8 + [[0]] + [[-6]] * 8 + [listed()] * 8)

    def test_rules_can_be_told_again_behind_it(self):
        calls = [rules(0, [word(5, "five")]), begins(), rules(1, [word(5, "cinq")]), say(0, 5), say(1, 5)]
        self.assert_answers(calls, [[1], [0], [1], [-6], said("cinq")])

    def test_sets_that_others_name_are_taken_away_too(self):
        ten = (10, 10, [q(1, 3), letters("ten"), r(1, 1)])
        calls = [rules(0, [ten]), rules(1, [word(2, "two")]), say(0, 12),
                 begins(), rules(0, [ten]), say(0, 10), say(0, 12)]
        self.assert_answers(calls, [[1], [1], said("tentwo"), [0], [1], said("ten"), [-6]])
