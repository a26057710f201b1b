"""Rules: how they are told, which of them are refused, and in which shapes each says its numbers."""

from saidnumbers.rows import Row

HIGHEST = 1000000000000000
HOW_MANY_SETS = 8
MOST_RULES = 60
MOST_PIECES = 8
MOST_BYTES = 40

ALWAYS = 0
IF_R = 1
IF_NO_R = 2
IF_NOT_ONE = 3
IF_ONE = 4

LETTERS = 0
Q = 1
R = 2


class NotAsTold(Exception):
    """What is handed in isn't as the document tells."""


class Piece:
    """A piece: when it stands, what it is, and its letters or the set that says it."""

    def __init__(self, stands, kind, letters, by):
        self.stands = stands
        self.kind = kind
        self.letters = letters
        self.by = by


class Shape:
    """What a rule says for a run of q and a run of r: letters ahead of each slot for q or r, and behind the last."""

    def __init__(self, q_run, r_run):
        self.q_run = q_run
        self.r_run = r_run
        self.letters = [[]]
        self.slots = []

    def fits(self, q, r):
        return self.q_run[0] <= q <= self.q_run[1] and self.r_run[0] <= r <= self.r_run[1]

    def add_piece(self, piece):
        if piece.kind == LETTERS:
            self.letters[-1].extend(piece.letters)
        else:
            self.slots.append(piece)
            self.letters.append([])


class Rule:
    """A rule, its shapes, and the last of the numbers that fall to it."""

    def __init__(self, base, divisor, pieces):
        self.base = base
        self.last = HIGHEST
        self.divisor = divisor
        self.shapes = shapes_of(pieces)


def stands_for(piece, q, r):
    if piece.stands == IF_R:
        return r != 0
    if piece.stands == IF_NO_R:
        return r == 0
    if piece.stands == IF_NOT_ONE:
        return q != 1
    if piece.stands == IF_ONE:
        return q == 1
    return True


def q_runs(pieces):
    """Runs of q in which the same pieces stand; without a piece for q no other q than 1 can be said."""
    if not any([piece.kind == Q for piece in pieces]):
        return [(1, 1)]
    if any([piece.stands in (IF_NOT_ONE, IF_ONE) for piece in pieces]):
        return [(1, 1), (2, HIGHEST)]
    return [(1, HIGHEST)]


def r_runs(pieces):
    """Runs of r in which the same pieces stand."""
    if any([piece.stands in (IF_R, IF_NO_R) for piece in pieces]):
        return [(0, 0), (1, HIGHEST)]
    return [(0, HIGHEST)]


def shapes_of(pieces):
    """The shapes that the pieces make; no two of them fit the same q and r."""
    shapes = []
    for q_run in q_runs(pieces):
        for r_run in r_runs(pieces):
            shape = Shape(q_run, r_run)
            for piece in pieces:
                if stands_for(piece, q_run[0], r_run[0]):
                    shape.add_piece(piece)
            shapes.append(shape)
    return shapes


def rules_up_to(rules, n):
    """How many of the rules have a base that isn't above n."""
    low = 0
    high = len(rules)
    while low < high:
        middle = (low + high) // 2
        if rules[middle].base <= n:
            low = middle + 1
        else:
            high = middle
    return low


def may_be_piece(piece):
    if piece.kind == LETTERS:
        return len(piece.letters) <= MOST_BYTES
    return piece.by < HOW_MANY_SETS


def may_say_base(pieces):
    return all([piece.kind == LETTERS and piece.stands == ALWAYS for piece in pieces])


def may_say_parts(pieces):
    q_stands = [piece.stands for piece in pieces if piece.kind == Q]
    r_stands = [piece.stands for piece in pieces if piece.kind == R]
    always_letters = [piece for piece in pieces if piece.stands == ALWAYS and len(piece.letters) > 0]
    return (q_stands in ([], [ALWAYS], [IF_NOT_ONE])
            and r_stands in ([ALWAYS], [IF_R])
            and len(always_letters) > 0)


def may_be_rule(base, divisor, pieces):
    if base > HIGHEST or len(pieces) > MOST_PIECES:
        return False
    if not all([may_be_piece(piece) for piece in pieces]):
        return False
    if divisor == 0:
        return may_say_base(pieces)
    return 2 <= divisor <= base and may_say_parts(pieces)


def told_piece(row):
    stands = row.one()
    kind = row.one()
    if kind == LETTERS:
        return Piece(stands, kind, row.told(), 0)
    return Piece(stands, kind, [], row.one())


def told_rule(row):
    base = row.one()
    divisor = row.one()
    pieces = [told_piece(row) for k in range(row.one())]
    if not may_be_rule(base, divisor, pieces):
        raise NotAsTold()
    return Rule(base, divisor, pieces)


def told_rules(numbers):
    """The rules that the list of the call rules tells; NotAsTold if they may not be a set's."""
    row = Row(numbers)
    how_many = row.one()
    if how_many > MOST_RULES:
        raise NotAsTold()
    rules = []
    for k in range(how_many):
        rule = told_rule(row)
        if k > 0:
            before = rules[k - 1]
            if rule.base <= before.base:
                raise NotAsTold()
            before.last = rule.base - 1
        rules.append(rule)
    return rules
