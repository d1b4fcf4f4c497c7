"""The least machine of a wish for which a row can lead to several places at once.

A row is in the wish if at least one of the places to which it leads is kept. Sets of places are told by the bits of
integers. Millions of sets can come up even if the least machine has few states. So the machine is guessed by sets that
some words tell apart, a word being a row that is tried from a set on, and the guess is proven or found wrong.
"""

from eachshare.errors import TooMany

# More sets to conclude from cost more than they spare.
MAX_ASSUMED = 1000


def least_of(guide, starts, deeds, limit):
    """The targets and the kept states of the least machine with these rows.

    The object guide.ends(place, deed) tells the places to which a deed leads, guide.keeps(place) whether one is kept.
    """
    several = Several(guide, starts, deeds)
    words = Words(several)
    guess = Guess(several, words, [several.begun], deeds, limit)
    wrong = Proof(several, words, guess).wrong()
    while wrong is not None:
        # A new word tells this set from the guessed one that it seemed to be like, so each guess has one set more.
        bits, deed, word = wrong
        words.learn(deed, word)
        guess = Guess(several, words, guess.sets() + [bits], deeds, limit)
        wrong = Proof(several, words, guess).wrong()
    kept = [number for number, bits in enumerate(guess.sets()) if several.keeps(bits)]
    return guess.table(), tuple(kept)


class Several:
    """Sets of places, and how deeds move them. Each set has all places that can be added without one row more."""

    def __init__(self, guide, starts, deeds):
        places, moves = _explored(guide, starts, deeds)
        kept = [number for number, place in enumerate(places) if guide.keeps(place)]
        under = _under(moves, kept, len(places))
        self.begun = _united(under, list(range(len(starts))))
        self._kept = _bits(kept)
        self._moves = {deed: [_united(under, ends) for ends in moves[deed]] for deed in deeds}
        self._known = {deed: {} for deed in deeds}

    def moved(self, bits, deed):
        """The set to which a deed leads from a set."""
        known = self._known[deed]
        if bits not in known:
            known[bits] = _united(self._moves[deed], _members(bits))
        return known[bits]

    def keeps(self, bits):
        """Whether one of the places of a set is kept."""
        return bits & self._kept != 0


class Words:
    """The words that are tried. Each one but the empty one, which has number 0, is a deed and then another one."""

    def __init__(self, several):
        self._several = several
        self._words = [None]
        self._answers = [{}]

    def learn(self, deed, word):
        """Try a deed and then the word with this number, too."""
        self._words.append((deed, word))
        self._answers.append({})

    def sign(self, bits):
        """For each word whether it leads from a set to a kept place."""
        return tuple([self._tells(bits, word) for word in range(len(self._words))])

    def between(self, one, other):
        """The number of a word that tells two sets apart, or None."""
        for word in range(len(self._words)):
            if self._tells(one, word) != self._tells(other, word):
                return word
        return None

    def _tells(self, bits, word):
        answers = self._answers[word]
        if bits not in answers:
            if word == 0:
                answers[bits] = self._several.keeps(bits)
            else:
                deed, rest = self._words[word]
                answers[bits] = self._tells(self._several.moved(bits, deed), rest)
        return answers[bits]


class Guess:
    """A machine whose states are sets that the words tell apart, the given ones among them."""

    def __init__(self, several, words, sets, deeds, limit):
        self.order = deeds
        self._sets = list(sets)
        self._rows = []
        numbers = {words.sign(bits): number for number, bits in enumerate(sets)}
        while len(self._rows) < len(self._sets):
            bits = self._sets[len(self._rows)]
            row = {}
            for deed in deeds:
                end = several.moved(bits, deed)
                sign = words.sign(end)
                if sign not in numbers:
                    numbers[sign] = len(self._sets)
                    self._sets.append(end)
                row[deed] = numbers[sign]
            if len(self._sets) > limit:
                raise TooMany(limit)
            self._rows.append(row)

    def sets(self):
        """The list of the sets."""
        return list(self._sets)

    def table(self):
        """The targets of all states."""
        return tuple([tuple(list(row.values())) for row in self._rows])

    def moved(self, number, deed):
        """The number of the set to which a deed leads."""
        return self._rows[number][deed]


class Proof:
    """Sets that are assumed to have just the rows of a guessed one, till a deed shows that they have not.

    If two sets have the same rows, one that contains the first one has the rows of both. So much follows from a few
    sets, and those of which it follows need not be looked at.
    """

    def __init__(self, several, words, guess):
        self._several = several
        self._words = words
        self._guess = guess
        self._sets = guess.sets()
        self._least = [[bits] for bits in self._sets]
        self._whole = guess.sets()
        self._found = {bits: number for number, bits in enumerate(self._sets)}
        self._waiting = guess.sets()

    def wrong(self):
        """A set, a deed, and the number of a word that the guess tells wrongly behind both; None if it is right."""
        done = 0
        while done < len(self._waiting):
            for deed in self._guess.order:
                wrong = self._wrong_along(self._waiting[done], deed)
                if wrong is not None:
                    return wrong
            done += 1
        return None

    def _wrong_along(self, bits, deed):
        """The same for a deed that is done again and again, as long as this leads to what does not follow."""
        # Where deeds are counted, this finds soon what all rows, shorter ones first, would find late.
        while True:
            end = self._several.moved(bits, deed)
            number = self._guess.moved(self._found[bits], deed)
            if self._is_known(end, number):
                return None
            word = self._words.between(end, self._sets[number])
            if word is not None:
                return bits, deed, word
            self._assume(end, number)
            bits = end

    def _is_known(self, bits, number):
        """Whether it is assumed, or follows, that a set has the rows of the guessed one with this number."""
        if bits not in self._found and self._follows(bits, self._sets[number]):
            self._found[bits] = number
        return bits in self._found and self._found[bits] == number

    def _assume(self, bits, number):
        self._found[bits] = number
        self._waiting.append(bits)
        if len(self._least[number]) < MAX_ASSUMED:
            self._least[number] = [less for less in self._least[number] if bits | less != less] + [bits]
            self._whole[number] = self._whole[number] | bits

    def _follows(self, one, other):
        """Whether it follows that two sets have the same rows."""
        more = self._grown(one)
        if other | more != more:
            return False
        more = self._grown(other)
        return one | more == more

    def _grown(self, bits):
        """The set with all that can be added without one row more, by what is assumed."""
        left = list(range(len(self._sets)))
        before = []
        while len(left) != len(before):
            before = left
            left = []
            for number in before:
                if _contains_one(bits, self._least[number]):
                    bits = bits | self._whole[number]
                else:
                    left.append(number)
        return bits


def _contains_one(bits, sets):
    """Whether a set contains one of these sets."""
    for less in sets:
        if less | bits == bits:
            return True
    return False


def _explored(guide, starts, deeds):
    """All places that come up, and for each deed, for each place, the numbers of the places to which it leads."""
    places = list(starts)
    numbers = {place: number for number, place in enumerate(places)}
    moves = {deed: [] for deed in deeds}
    done = 0
    while done < len(places):
        for deed in deeds:
            ends = guide.ends(places[done], deed)
            for end in ends:
                if end not in numbers:
                    numbers[end] = len(places)
                    places.append(end)
            moves[deed].append([numbers[end] for end in ends])
        done += 1
    return places, moves


def _under(moves, kept, many):
    """For each place the bits of those that it can follow: wherever deeds lead from these, they lead from it, too."""
    above = _above(moves, kept, many)
    found = [0] * many
    for place in range(many):
        for upper in _members(above[place]):
            found[upper] = found[upper] | 1 << place
    return found


def _above(moves, kept, many):
    """For each place the bits of those that can follow it: kept if it is, and by each deed to where it leads so."""
    above = [(1 << many) - 1] * many
    for place in kept:
        above[place] = _bits(kept)
    sources = {deed: _sources(moves[deed]) for deed in moves}
    bits = {deed: [_bits(places) for places in sources[deed]] for deed in moves}
    known = {}
    waiting = list(range(many))
    waits = [True] * many
    while waiting:
        end = waiting.pop()
        waits[end] = False
        if above[end] not in known:
            members = _members(above[end])
            known[above[end]] = {deed: _united(bits[deed], members) for deed in moves}
        able = known[above[end]]
        for deed in moves:
            for place in sources[deed][end]:
                if above[place] & able[deed] != above[place]:
                    above[place] = above[place] & able[deed]
                    if not waits[place]:
                        waits[place] = True
                        waiting.append(place)
    return above


def _sources(moves):
    """For each place the list of those from which a deed leads to it."""
    found = [[] for _ in moves]
    for place, ends in enumerate(moves):
        for end in ends:
            found[end].append(place)
    return found


def _bits(members):
    """The integer with these bits, perhaps with some of them told twice."""
    found = 0
    for member in members:
        found = found | 1 << member
    return found


def _members(bits):
    """The numbers of the bits of an integer, ascending."""
    found = []
    while bits:
        low = bits & -bits
        found.append(low.bit_length() - 1)
        bits = bits ^ low
    return found


def _united(sets, numbers):
    """The union of the sets with these numbers."""
    found = 0
    for number in numbers:
        found = found | sets[number]
    return found
