"""Texts read back: the numbers of a set that say them.

Places of the text are the bits of a whole number, a mask, so that many places are looked at in one step. First it is
found at which places the text of some number of a stretch can end; numbers are gathered only where that leads to the
text's end, so hardly more of them are gathered than are answered.
"""

from saidnumbers.stretches import Stretches


def places_of(mask):
    """The places in a mask, rising."""
    places = []
    while mask > 0:
        others = mask & (mask - 1)
        places.append((mask ^ others).bit_length() - 1)
        mask = others
    return places


def has_place(mask, place):
    return (mask >> place) & 1 == 1


class Reading:
    """A text, and what is known of the numbers that say parts of it.

    Its methods call one another for the numbers of a slot, which are at most half of those that they stand in: that
    goes 51 stretches deep at most, three calls for each.
    """

    def __init__(self, sets, text):
        self.made = Stretches(sets)
        self.size = len(text)
        self.byte_masks = {}
        for place, byte in enumerate(text):
            self.byte_masks[byte] = self.byte_masks.get(byte, 0) | (1 << place)

    def mask_of(self, letters):
        """The places at which the letters begin."""
        mask = (1 << (self.size + 1)) - 1
        for k, byte in enumerate(letters):
            mask &= self.byte_masks.get(byte, 0) >> k
        return mask

    def ways_of(self, stretch):
        """The ways of a stretch whose letters all stand somewhere in the text."""
        if stretch.ways is None:
            stretch.ways = []
            for way in self.made.ways_in(stretch):
                if way.masks is None:
                    way.masks = [self.mask_of(letters) for letters in way.letters]
                if all([mask > 0 for mask in way.masks]):
                    stretch.ways.append(way)
        return stretch.ways

    def ends_of(self, stretch, starts):
        """The places at which a number of the stretch can end that begins at one of the starts."""
        ends = 0
        known = stretch.known_ends
        for start in places_of(starts):
            if start not in known:
                known[start] = self.ends_from(stretch, start)
            ends |= known[start]
        return ends

    def ends_from(self, stretch, start):
        ends = 0
        for way in self.ways_of(stretch):
            if has_place(way.masks[0], start):
                ends |= self.way_ends(way, start)
        return ends

    def way_ends(self, way, start):
        """The places at which a number of the way can end that begins with its first letters at the start."""
        if start not in way.known_ends:
            ends = 1 << (start + len(way.letters[0]))
            for k, stretch in enumerate(way.stretches):
                ends = self.ends_of(stretch, ends) & way.masks[k + 1]
                ends = ends << len(way.letters[k + 1])
            way.known_ends[start] = ends
        return way.known_ends[start]

    def can_be(self, stretch, start, end):
        """Whether a number of the stretch says the text from start to end."""
        return has_place(self.ends_of(stretch, 1 << start), end)

    def numbers_of(self, stretch, start, end):
        """The numbers of the stretch that say the text from start to end."""
        key = (start, end)
        if key not in stretch.known_numbers:
            numbers = []
            for way in self.ways_of(stretch):
                if has_place(way.masks[0], start) and has_place(self.way_ends(way, start), end):
                    numbers.extend(self.way_numbers(way, start, end))
            stretch.known_numbers[key] = numbers
        return stretch.known_numbers[key]

    def way_numbers(self, way, start, end):
        """The numbers of the way that say the text from start to end, where some do."""
        if len(way.stretches) == 0:
            return [way.fixed]
        first = start + len(way.letters[0])
        last = end - len(way.letters[-1])
        if len(way.stretches) == 1:
            weight = way.weights[0]
            return [way.fixed + weight * part for part in self.numbers_of(way.stretches[0], first, last)]
        numbers = []
        for middle in places_of(self.ends_of(way.stretches[0], 1 << first) & way.masks[1]):
            after = middle + len(way.letters[1])
            if self.can_be(way.stretches[1], after, last):
                numbers.extend(self.pair_numbers(way, (first, middle), (after, last)))
        return numbers

    def pair_numbers(self, way, one, other):
        """The numbers of a way with two slots, each of which stands where it is told."""
        parts = self.numbers_of(way.stretches[1], other[0], other[1])
        others = [way.weights[1] * part for part in parts]
        numbers = []
        for part in self.numbers_of(way.stretches[0], one[0], one[1]):
            ahead = way.fixed + way.weights[0] * part
            numbers.extend([ahead + more for more in others])
        return numbers


def numbers_that_say(sets, by, most, text):
    """The numbers up to most whose text, as the set says them, is this one; rising."""
    reading = Reading(sets, text)
    stretch = reading.made.stretch(by, 0, most)
    if not reading.can_be(stretch, 0, len(text)):
        return []
    return sorted(reading.numbers_of(stretch, 0, len(text)))
