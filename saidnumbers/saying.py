"""Numbers said by a set."""

from saidnumbers.rules import Q, rules_up_to


class NotSaid(Exception):
    """The number isn't said."""


def rule_for(rules, n):
    """The rule that n falls to."""
    how_many = rules_up_to(rules, n)
    if how_many == 0:
        raise NotSaid()
    return rules[how_many - 1]


def shape_for(rule, q, r):
    for shape in rule.shapes:
        if shape.fits(q, r):
            return shape
    raise NotSaid()


def say_onto(text, sets, by, n):
    """Puts what the set says of n behind the text.

    It calls itself at most 50 deep: a divisor is from 2 to n, so neither q nor r is above half of n.
    """
    rule = rule_for(sets[by], n)
    if rule.divisor == 0:
        if n != rule.base:
            raise NotSaid()
        text.extend(rule.shapes[0].letters[0])
        return
    q = n // rule.divisor
    r = n % rule.divisor
    shape = shape_for(rule, q, r)
    text.extend(shape.letters[0])
    for k, slot in enumerate(shape.slots):
        say_onto(text, sets, slot.by, q if slot.kind == Q else r)
        text.extend(shape.letters[k + 1])


def text_of(sets, by, n):
    """The text of n, as the set says it; NotSaid if it doesn't."""
    text = []
    say_onto(text, sets, by, n)
    return text
