"""Wishes for which a row can lead to several places at once.

A row is in such a wish if at least one of the places to which it leads is kept. Sets of places are told by the bits of
integers.
"""


class Several:
    """Sets of places, and how deeds move them. Each set has all places that can be added without one row more."""

    def __init__(self, guide, starts, deeds):
        places, moves = _explored(guide, starts, deeds)
        kept = [number for number, place in enumerate(places) if guide.keeps(place)]
        under = _under(moves, kept, len(places))
        self.begun = united(under, list(range(len(starts))))
        self.order = deeds
        self._moves = {deed: [united(under, ends) for ends in moves[deed]] for deed in deeds}
        self._ends = {deed: {} for deed in deeds}
        self._able = {(): _bits(kept)}

    def moved(self, bits, deed):
        """The set to which a deed leads from a set."""
        ends = self._ends[deed]
        if bits not in ends:
            ends[bits] = united(self._moves[deed], members(bits))
        return ends[bits]

    def able(self, row):
        """The places from which a row leads to a kept one."""
        known = 0
        while row[known:] not in self._able:
            known += 1
        for place in range(known - 1, -1, -1):
            self._able[row[place:]] = self._leading(row[place], self._able[row[place + 1:]])
        return self._able[row]

    def does(self, bits, row):
        """Whether a row leads from a set to a kept place."""
        return bits & self.able(row) != 0

    def _leading(self, deed, bits):
        """The places from which a deed leads into a set."""
        return _bits([place for place, ends in enumerate(self._moves[deed]) if ends & bits])


def members(bits):
    """The numbers of the bits of an integer, ascending."""
    found = []
    while bits:
        low = bits & -bits
        found.append(low.bit_length() - 1)
        bits = bits ^ low
    return found


def united(sets, numbers):
    """The union of the sets with these numbers."""
    found = 0
    for number in numbers:
        found = found | sets[number]
    return found


def _bits(numbers):
    """The integer with these bits, perhaps with some of them told twice."""
    found = 0
    for number in numbers:
        found = found | 1 << number
    return found


def _explored(guide, starts, deeds):
    """All places that come up, and for each deed, for each place, the numbers of the places to which it leads."""
    places = list(starts)
    numbers = {place: number for number, place in enumerate(places)}
    moves = {deed: [] for deed in deeds}
    done = 0
    while done < len(places):
        for deed in deeds:
            ends = guide.ends(places[done], deed)
            for end in ends:
                if end not in numbers:
                    numbers[end] = len(places)
                    places.append(end)
            moves[deed].append([numbers[end] for end in ends])
        done += 1
    return places, moves


def _under(moves, kept, many):
    """For each place the bits of those that it can follow: wherever deeds lead from these, they lead from it, too."""
    above = _above(moves, kept, many)
    found = [0] * many
    for place in range(many):
        for upper in members(above[place]):
            found[upper] = found[upper] | 1 << place
    return found


def _above(moves, kept, many):
    """For each place the bits of those that can follow it: kept if it is, and by each deed to where it leads so."""
    above = [(1 << many) - 1] * many
    for place in kept:
        above[place] = _bits(kept)
    sources = {deed: _sources(moves[deed]) for deed in moves}
    bits = {deed: [_bits(places) for places in sources[deed]] for deed in moves}
    known = {}
    waiting = list(range(many))
    waits = [True] * many
    while waiting:
        end = waiting.pop()
        waits[end] = False
        if above[end] not in known:
            uppers = members(above[end])
            known[above[end]] = {deed: united(bits[deed], uppers) for deed in moves}
        able = known[above[end]]
        for deed in moves:
            for place in sources[deed][end]:
                if above[place] & able[deed] != above[place]:
                    above[place] = above[place] & able[deed]
                    if not waits[place]:
                        waits[place] = True
                        waiting.append(place)
    return above


def _sources(moves):
    """For each place the list of those from which a deed leads to it."""
    found = [[] for _ in moves]
    for place, ends in enumerate(moves):
        for end in ends:
            found[end].append(place)
    return found
