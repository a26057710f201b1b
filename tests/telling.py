"""What the tests share: calls as lists, answers one by one, a plain oracle for what is said, and two languages."""

import unittest

from saidnumbers.sets import answers

HIGHEST = 10 ** 15
ALWAYS, IF_R, IF_NO_R, IF_NOT_ONE, IF_ONE = range(5)


def letters(text, stands=ALWAYS):
    return (stands, 0, list(text.encode("ascii")))


def q(by, stands=ALWAYS):
    return (stands, 1, by)


def r(by, stands=ALWAYS):
    return (stands, 2, by)


def word(base, text):
    """A rule that says its base alone."""
    return (base, 0, [letters(text)])


def told(rules):
    """Rules (base, divisor, pieces) as the list of the call rules."""
    row = [len(rules)]
    for base, divisor, pieces in rules:
        row += [base, divisor, len(pieces)]
        for stands, kind, what in pieces:
            row += [stands, kind] + ([len(what)] + what if kind == 0 else [what])
    return row


def begins():
    return [0]


def rules(by, told_rules):
    row = told(told_rules)
    return [1, by, len(row)] + row


def say(by, n):
    return [2, by, n]


def read(by, most, text):
    if isinstance(text, str):
        text = text.encode("ascii")
    return [3, by, most, len(text)] + list(text)


def gaps(by, a, b):
    return [4, by, a, b]


def alike(by, a, b):
    return [5, by, a, b]


def longest(by, a, b):
    return [6, by, a, b]


def in_order(by, numbers):
    """The call sorted."""
    return [7, by, len(numbers)] + list(numbers)


def split(answered):
    """Each call's answer by itself."""
    parts = []
    while answered:
        count = answered[0]
        assert count <= len(answered) - 1
        parts.append(answered[1:1 + count])
        answered = answered[1 + count:]
    return parts


def ask(*calls):
    return split(answers(sum(calls, [])))


def said(text):
    return [0, len(text)] + list(text.encode("ascii"))


def listed(*numbers):
    return [len(numbers), len(numbers)] + list(numbers)


def found(*numbers):
    """What alike and longest answer where they find two numbers, without the number ahead."""
    return [len(numbers)] + list(numbers)


def plainly_said(sets, by, n):
    """What the set says of n, straight from the document's words; None if it isn't said."""
    falls = [rule for rule in sets.get(by, []) if rule[0] <= n]
    if not falls:
        return None
    base, divisor, pieces = falls[-1]
    if divisor == 0:
        return sum([what for stands, kind, what in pieces], []) if n == base else None
    parts = {1: n // divisor, 2: n % divisor}
    if parts[1] != 1 and not any(kind == 1 for stands, kind, what in pieces):
        return None
    text = []
    for stands, kind, what in pieces:
        if [True, parts[2] != 0, parts[2] == 0, parts[1] != 1, parts[1] == 1][stands]:
            more = what if kind == 0 else plainly_said(sets, what, parts[kind])
            if more is None:
                return None
            text = text + more
    return text


def random_rules(chance):
    """Rules for sets 0 and 1 over few letters, so that many numbers are said alike."""
    made = []
    for base in sorted(chance.sample(range(300), 25) + [300, 301]):
        if base < 2 or chance.random() < 0.3:
            made.append(word(base, "ab"[:chance.randint(0, 2)]))
            continue
        pieces = [letters(chance.choice("ab")), r(chance.randrange(2), chance.choice([0, 1]))]
        if chance.random() < 0.8:
            pieces.append(q(chance.randrange(2), chance.choice([0, 3])))
        pieces += [letters(chance.choice(["", "a", "b"]), chance.randrange(5)) for k in range(chance.randrange(3))]
        chance.shuffle(pieces)
        made.append((base, chance.randint(2, base), pieces))
    return made


ENGLISH_WORDS = ("zero one two three four five six seven eight nine ten eleven twelve thirteen fourteen fifteen"
                 " sixteen seventeen eighteen nineteen").split()
ENGLISH_TENS = "twenty thirty forty fifty sixty seventy eighty ninety".split()
ENGLISH = (
    [word(n, text) for n, text in enumerate(ENGLISH_WORDS)]
    + [(20 + 10 * k, 20 + 10 * k, [letters(text), letters("-", IF_R), r(0, IF_R)])
       for k, text in enumerate(ENGLISH_TENS)]
    + [(10 ** power, 10 ** power, [q(0), letters(" " + text), letters(" ", IF_R), r(0, IF_R)])
       for power, text in [(2, "hundred"), (3, "thousand"), (6, "million"), (9, "billion"), (12, "trillion")]])

# German in two sets: 0 says numbers by themselves (eins), 1 says them before another word (ein).
GERMAN_WORDS = ("zwei drei vier fuenf sechs sieben acht neun zehn elf zwoelf dreizehn vierzehn fuenfzehn sechzehn"
                " siebzehn achtzehn neunzehn").split()
GERMAN_TENS = "zwanzig dreissig vierzig fuenfzig sechzig siebzig achtzig neunzig".split()


def german(own, one, zero):
    small = zero + [word(1, one)] + [word(2 + k, text) for k, text in enumerate(GERMAN_WORDS)]
    tens = [(20 + 10 * k, 20 + 10 * k, [r(1, IF_R), letters("und", IF_R), letters(text)])
            for k, text in enumerate(GERMAN_TENS)]
    big = [(100, 100, [q(1), letters("hundert"), r(own, IF_R)]),
           (1000, 1000, [q(1), letters("tausend"), r(own, IF_R)]),
           (1000000, 1000000, [letters("eine Million", IF_ONE), q(1, IF_NOT_ONE), letters(" Millionen", IF_NOT_ONE),
                               letters(" ", IF_R), letters(""), r(own, IF_R), letters(".")])]
    return small + tens + big


GERMAN = {0: german(0, "eins", [word(0, "null")]), 1: german(1, "ein", [])}


class Case(unittest.TestCase):
    def assert_answers(self, calls, expected):
        """The calls, each a list, answer what is expected of each."""
        self.assertEqual(ask(*calls), expected)
