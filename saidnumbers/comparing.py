"""Numbers of a set beside one another: which aren't said, which are said alike, and which texts are longer or first."""

from saidnumbers.saying import NotSaid, text_of


def text_or_none(sets, by, n):
    try:
        return text_of(sets, by, n)
    except NotSaid:
        return None


def those_not_said(sets, by, numbers):
    return [n for n in numbers if text_or_none(sets, by, n) is None]


def first_alike(sets, by, numbers):
    """The first of the rising numbers that has the text of one ahead of it, and the least such; none if there's none.

    As it is the first, just one ahead of it has its text.
    """
    numbers_by_text = {}
    for n in numbers:
        text = text_or_none(sets, by, n)
        if text is not None:
            key = tuple(text)
            if key in numbers_by_text:
                return [n, numbers_by_text[key]]
            numbers_by_text[key] = n
    return []


def longest_said(sets, by, numbers):
    """The first of the numbers with the longest text, and how many bytes it has; NotSaid if none is said."""
    found = []
    for n in numbers:
        text = text_or_none(sets, by, n)
        if text is not None and (found == [] or len(text) > found[1]):
            found = [n, len(text)]
    if found == []:
        raise NotSaid()
    return found


def by_their_texts(sets, by, numbers):
    """The numbers in the order of their texts; those that aren't said stand last."""
    said = []
    not_said = []
    for n in numbers:
        text = text_or_none(sets, by, n)
        if text is None:
            not_said.append(n)
        else:
            said.append((text, n))
    # Lists are put in order number by number, a beginning first: just as the document orders texts.
    return [pair[1] for pair in sorted(said)] + sorted(not_said)
