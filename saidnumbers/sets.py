"""The calls on eight sets of rules."""

from saidnumbers.reading import numbers_that_say
from saidnumbers.rows import Row
from saidnumbers.rules import HIGHEST, HOW_MANY_SETS, NotAsTold, told_rules
from saidnumbers.saying import NotSaid, text_of

MOST_TEXT = 300


def begins(sets, row):
    for k in range(HOW_MANY_SETS):
        sets[k] = []
    return [0]


def rules(sets, row):
    by = row.one()
    told = row.told()
    check_set(by)
    sets[by] = told_rules(told)
    return [len(sets[by])]


def say(sets, row):
    by = row.one()
    n = row.one()
    check_set(by)
    check_number(n)
    text = text_of(sets, by, n)
    return [0, len(text)] + text


def read(sets, row):
    by = row.one()
    most = row.one()
    text = row.told()
    check_set(by)
    check_number(most)
    if len(text) > MOST_TEXT:
        raise NotAsTold()
    numbers = numbers_that_say(sets, by, most, text)
    return [len(numbers), len(numbers)] + numbers


CALLS = (begins, rules, say, read)


def check_set(by):
    if by >= HOW_MANY_SETS:
        raise NotAsTold()


def check_number(n):
    if n > HIGHEST:
        raise NotAsTold()


def answer(sets, row):
    """What the next call answers; a refusal leaves the sets as they were."""
    call = CALLS[row.one()]
    try:
        return call(sets, row)
    except NotAsTold:
        return [-1]
    except NotSaid:
        return [-6]


def answers(calls):
    """What each of the calls answers, one behind another, each behind how many numbers it answers."""
    row = Row(calls)
    sets = [[] for k in range(HOW_MANY_SETS)]
    answered = []
    while row.has_more():
        numbers = answer(sets, row)
        answered.append(len(numbers))
        answered.extend(numbers)
    return answered
