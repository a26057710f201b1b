"""The calls on eight sets of rules."""

from saidnumbers.comparing import by_their_texts, first_alike, longest_said, those_not_said
from saidnumbers.reading import numbers_that_say
from saidnumbers.rows import Row
from saidnumbers.rules import HIGHEST, HOW_MANY_SETS, NotAsTold, told_rules
from saidnumbers.saying import NotSaid, text_of

MOST_TEXT = 300
MOST_APART = 2999
MOST_SORTED = 200


def begins(sets, row):
    for k in range(HOW_MANY_SETS):
        sets[k] = []
    return [0]


def rules(sets, row):
    by = row.one()
    told = row.told()
    check_set(by)
    sets[by] = told_rules(told)
    return [len(sets[by])]


def say(sets, row):
    by = row.one()
    n = row.one()
    check_set(by)
    check_number(n)
    text = text_of(sets, by, n)
    return [0, len(text)] + text


def read(sets, row):
    by = row.one()
    most = row.one()
    text = row.told()
    check_set(by)
    check_number(most)
    if len(text) > MOST_TEXT:
        raise NotAsTold()
    return listed(numbers_that_say(sets, by, most, text))


def gaps(sets, row):
    by = row.one()
    numbers = told_run(row)
    check_set(by)
    return listed(those_not_said(sets, by, numbers))


def alike(sets, row):
    by = row.one()
    numbers = told_run(row)
    check_set(by)
    found = first_alike(sets, by, numbers)
    if found == []:
        return [0]
    return [1, len(found)] + found


def longest(sets, row):
    by = row.one()
    numbers = told_run(row)
    check_set(by)
    found = longest_said(sets, by, numbers)
    return [0, len(found)] + found


def in_order(sets, row):
    """The call sorted."""
    by = row.one()
    numbers = row.told()
    check_set(by)
    if len(numbers) > MOST_SORTED:
        raise NotAsTold()
    for n in numbers:
        check_number(n)
    return listed(by_their_texts(sets, by, numbers))


CALLS = (begins, rules, say, read, gaps, alike, longest, in_order)


def listed(numbers):
    """How many numbers, then a list of them, which has how many it has ahead of it, too."""
    return [len(numbers), len(numbers)] + numbers


def told_run(row):
    """All numbers from one that is told to another."""
    a = row.one()
    b = row.one()
    if a > b or b > HIGHEST or b - a > MOST_APART:
        raise NotAsTold()
    return list(range(a, b + 1))


def check_set(by):
    if by >= HOW_MANY_SETS:
        raise NotAsTold()


def check_number(n):
    if n > HIGHEST:
        raise NotAsTold()


def answer(sets, row):
    """What the next call answers; a refusal leaves the sets as they were."""
    call = CALLS[row.one()]
    try:
        return call(sets, row)
    except NotAsTold:
        return [-1]
    except NotSaid:
        return [-6]


def answers(calls):
    """What each of the calls answers, one behind another, each behind how many numbers it answers."""
    row = Row(calls)
    sets = [[] for k in range(HOW_MANY_SETS)]
    answered = []
    while row.has_more():
        numbers = answer(sets, row)
        answered.append(len(numbers))
        answered.extend(numbers)
    return answered
