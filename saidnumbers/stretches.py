"""Stretches of numbers, and the ways in which a set says them.

A stretch is all of a set's numbers from one number to another, as far as the set says them. Texts are read by
stretches and not by single numbers, since a part of a text may be said by more numbers than could be gone through.
"""

from saidnumbers.rules import Q, rules_up_to


class Stretch:
    """Numbers of a set from low to high, and what a reading has found out about them."""

    def __init__(self, by, low, high):
        self.by = by
        self.low = low
        self.high = high
        self.ways = None
        self.known_ends = {}
        self.known_numbers = {}


class Way:
    """Numbers that one shape of one rule says: fixed, and for each slot its weight times a number of its stretch.

    The slots are independent of one another: every choice of their numbers is a number of this way.
    """

    def __init__(self, fixed, letters):
        self.fixed = fixed
        self.letters = letters
        self.weights = []
        self.stretches = []
        self.masks = None
        self.known_ends = {}

    def add_slot(self, weight, stretch):
        self.weights.append(weight)
        self.stretches.append(stretch)


def boxes_of(divisor, low, high):
    """The numbers from low to high as boxes (q run, r run): each q of a box stands there with each r of it."""
    q_low = low // divisor
    q_high = high // divisor
    r_low = low % divisor
    r_high = high % divisor
    if q_low == q_high:
        return [((q_low, q_low), (r_low, r_high))]
    boxes = []
    if r_low > 0:
        boxes.append(((q_low, q_low), (r_low, divisor - 1)))
        q_low += 1
    if r_high < divisor - 1:
        boxes.append(((q_high, q_high), (0, r_high)))
        q_high -= 1
    if q_low <= q_high:
        boxes.append(((q_low, q_high), (0, divisor - 1)))
    return boxes


def common_run(one, other):
    return (max(one[0], other[0]), min(one[1], other[1]))


class Stretches:
    """All stretches of some sets that a reading has asked for, each made once."""

    def __init__(self, sets):
        self.sets = sets
        self.made_stretches = {}
        self.made_ways = {}

    def stretch(self, by, low, high):
        key = (by, low, high)
        if key not in self.made_stretches:
            self.made_stretches[key] = Stretch(by, low, high)
        return self.made_stretches[key]

    def ways_in(self, stretch):
        rules = self.sets[stretch.by]
        first = max(rules_up_to(rules, stretch.low) - 1, 0)
        ways = []
        for rule in rules[first:rules_up_to(rules, stretch.high)]:
            low = max(stretch.low, rule.base)
            high = min(stretch.high, rule.last)
            ways.extend(self.rule_ways(stretch.by, rule, low, high))
        return ways

    def rule_ways(self, by, rule, low, high):
        """The ways of one rule's numbers; stretches that overlap share them."""
        key = (by, low, high)
        if key not in self.made_ways:
            if rule.divisor > 0:
                self.made_ways[key] = self.part_ways(rule, low, high)
            elif low == rule.base:
                self.made_ways[key] = [Way(rule.base, rule.shapes[0].letters)]
            else:
                self.made_ways[key] = []
        return self.made_ways[key]

    def part_ways(self, rule, low, high):
        ways = []
        for box in boxes_of(rule.divisor, low, high):
            for shape in rule.shapes:
                q_run = common_run(box[0], shape.q_run)
                r_run = common_run(box[1], shape.r_run)
                if q_run[0] <= q_run[1] and r_run[0] <= r_run[1]:
                    ways.append(self.shape_way(rule, shape, q_run, r_run))
        return ways

    def shape_way(self, rule, shape, q_run, r_run):
        says_q = any([slot.kind == Q for slot in shape.slots])
        # A q that has no slot is 1, and an r that has none is 0.
        way = Way(0 if says_q else rule.divisor, shape.letters)
        for slot in shape.slots:
            if slot.kind == Q:
                way.add_slot(rule.divisor, self.stretch(slot.by, q_run[0], q_run[1]))
            else:
                way.add_slot(1, self.stretch(slot.by, r_run[0], r_run[1]))
        return way
