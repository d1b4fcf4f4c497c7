"""The least machine of a wish for which a row can lead to several places at once.

Millions of sets of places can come up even if this machine has few states. So it is guessed, and the guess is proven or
found wrong without going through all of them.
"""

from eachshare.errors import TooMany
from eachshare.put.several import Several, members

# How many sets the first proof of a guess may assume, and how many times more each next one.
FIRST_ASSUMED = 300
MORE_ASSUMED = 3


class Guess:
    """A machine whose states have sets of places, which some words tell apart, the given sets among them.

    A word is a row that is tried from a set on.
    """

    def __init__(self, several, words, sets, limit):
        self._several = several
        self._sets = list(sets)
        self._rows = []
        numbers = {_sign(several, words, bits): number for number, bits in enumerate(sets)}
        while len(self._rows) < len(self._sets):
            bits = self._sets[len(self._rows)]
            row = {}
            for deed in several.order:
                end = several.moved(bits, deed)
                sign = _sign(several, words, end)
                if sign not in numbers:
                    numbers[sign] = len(self._sets)
                    self._sets.append(end)
                row[deed] = numbers[sign]
            if len(self._sets) > limit:
                raise TooMany(limit)
            self._rows.append(row)
        self._kept = [several.does(bits, ()) for bits in self._sets]

    def sets(self):
        """The list of the sets of all states."""
        return list(self._sets)

    def machine(self):
        """The targets and the kept states."""
        targets = tuple([tuple(list(row.values())) for row in self._rows])
        return targets, tuple([state for state, is_kept in enumerate(self._kept) if is_kept])

    def moved(self, state, deed):
        """The state to which a deed leads."""
        return self._rows[state][deed]

    def does(self, state, row):
        """Whether a row leads from a state to a kept one."""
        for deed in row:
            state = self._rows[state][deed]
        return self._kept[state]

    def first_lacked(self):
        """State 0 and a row that leads from its set to a kept place, but not from itself to a kept state, or None."""
        found = [0] * len(self._sets)
        found[0] = self._sets[0]
        waiting = [(0, self._sets[0], ())]
        done = 0
        while done < len(waiting):
            state, bits, row = waiting[done]
            if not self._kept[state] and self._several.does(bits, ()):
                return 0, row
            for deed in self._several.order:
                target = self._rows[state][deed]
                # Places that came up with a state need not be looked at with it again.
                more = self._several.moved(bits, deed) & ~found[target]
                if more:
                    found[target] = found[target] | more
                    waiting.append((target, more, row + (deed,)))
            done += 1
        return None

    def parted(self, state, row):
        """A word and a set that it tells from all sets of the states, by a row that a state tells unlike its set."""
        answer = self._several.does(self._sets[state], row)
        place = 0
        target = self._rows[state][row[0]]
        # At the end a state has the empty row as its set does, so the answer changes on the way.
        while self._several.does(self._sets[target], row[place + 1:]) == answer:
            place += 1
            state, target = target, self._rows[target][row[place]]
        return row[place + 1:], self._several.moved(self._sets[state], row[place])


class Proof:
    """A search for a row that a state of a guess has and its set has not.

    If no set lacks a row that its state has, no greater set does. So sets are assumed to lack none, and whatever comes
    up need only contain one that is assumed. In the first place the sets themselves are assumed. If they are too many,
    small parts of them are, as many as the words ask for, till a word shows that such a part is too small.
    """

    def __init__(self, several, guess, words, most, is_short):
        self.wrong = None
        self._several = several
        self._guess = guess
        self._words = words
        self._most = most
        self._is_short = is_short
        self._many = 0
        self._waiting = []
        # For each state the words that it has, each with the places from which they lead to a kept one.
        self._tasks = [[] for _ in guess.sets()]
        # For each state the sets that are assumed, each with the claims that lean on it. A claim is a pair of a state
        # and a set that is assumed for it, as deeds must lead on from it to sets that are fine, or None for its own.
        self._assumed = [{} for _ in guess.sets()]
        for word in words:
            self._take(word)

    def is_done(self):
        """Whether the search comes to its end; then it has the state and the row that are wrong, or None."""
        for state, bits in enumerate(self._guess.sets()):
            self._assume(state, bits)
            self._assumed[state][bits][state, None] = True
        done = 0
        while done < len(self._waiting) and self.wrong is None and self._many <= self._most:
            self._look(self._waiting[done])
            done += 1
        return self.wrong is not None or self._many <= self._most

    def _look(self, claim):
        """See that the own set of a state, or the sets to which deeds lead from an assumed one, are fine."""
        state, bits = claim
        if bits is None:
            word = self._word_against(state, self._guess.sets()[state], claim)
            if word is not None:
                self.wrong = (state, word)
        elif bits in self._assumed[state]:
            for deed in self._several.order:
                end = self._several.moved(bits, deed)
                word = self._word_against(self._guess.moved(state, deed), end, claim)
                if word is not None:
                    self._learn((deed,) + word)
                    return

    def _word_against(self, state, bits, claim):
        """A word that a state has and a set has not. If it is None, the claim leans on a part of the set."""
        part = self._known_part(state, bits)
        if part is None:
            for word, able in self._tasks[state]:
                if not able & bits:
                    return word
            part = self._short_part(state, bits) if self._is_short else bits
            self._assume(state, part)
        self._assumed[state][part][claim] = True
        return None

    def _known_part(self, state, bits):
        """A part of a set that is assumed for a state, or None."""
        for part in self._assumed[state]:
            if part | bits == bits:
                return part
        return None

    def _short_part(self, state, bits):
        """A part of a set that has all words that the state has, and no place without which it has them."""
        tasks = [able & bits for word, able in self._tasks[state]]
        left = tasks
        found = 0
        while left:
            place = _commonest(left)
            found = found | 1 << place
            left = [able for able in left if not able >> place & 1]
        for place in members(found):
            less = found ^ 1 << place
            if all([able & less for able in tasks]):
                found = less
        return found

    def _assume(self, state, bits):
        """Assume a set for a state, in the place of greater ones."""
        claims = {}
        for more in list(self._assumed[state]):
            if more | bits == more:
                gone = self._assumed[state].pop(more)
                claims = {**claims, **gone}
        self._assumed[state][bits] = claims
        self._waiting.append((state, bits))
        self._many += 1

    def _learn(self, word):
        """Try a new word, too, and assume no longer what it shows to be too small."""
        self._words.append(word)
        self._take(word)
        able = self._several.able(word)
        for state, bits in enumerate(self._guess.sets()):
            if self._guess.does(state, word):
                if not able & bits:
                    self.wrong = (state, word)
                for part in list(self._assumed[state]):
                    if not able & part:
                        claims = self._assumed[state].pop(part)
                        self._waiting.extend(list(claims))

    def _take(self, word):
        """Have a word for all states that have it, and for which it asks for more than the other words."""
        able = self._several.able(word)
        for state in range(len(self._tasks)):
            tasks = self._tasks[state]
            if self._guess.does(state, word) and not any([less | able == able for known, less in tasks]):
                kept = [(known, more) for known, more in tasks if more | able != more]
                self._tasks[state] = kept + [(word, able)]


def least_of(guide, starts, deeds, limit):
    """The targets and the kept states of the least machine with these rows.

    The object guide.ends(place, deed) tells the places to which a deed leads, guide.keeps(place) whether one is kept.
    """
    several = Several(guide, starts, deeds)
    words = [()]
    guess = Guess(several, words, [several.begun], limit)
    wrong = _first_wrong(several, guess, words)
    while wrong is not None:
        # Each guess has one set more than the last one, so the limit ends this.
        state, row = wrong
        word, bits = guess.parted(state, row)
        words.append(word)
        guess = Guess(several, words, guess.sets() + [bits], limit)
        wrong = _first_wrong(several, guess, words)
    return guess.machine()


def _first_wrong(several, guess, words):
    """A state of a guess and a row that it tells unlike its set, or None."""
    wrong = guess.first_lacked()
    if wrong is not None:
        return wrong
    most = FIRST_ASSUMED
    # There are wishes with few sets, but many small parts of them, and others with the contrary, so both take turns.
    while True:
        for is_short in (False, True):
            proof = Proof(several, guess, words, most, is_short)
            if proof.is_done():
                return proof.wrong
        most = most * MORE_ASSUMED


def _sign(several, words, bits):
    """For each word whether a set has it."""
    return tuple([several.does(bits, word) for word in words])


def _commonest(sets):
    """The place that is in the most of some sets."""
    counts = {}
    for bits in sets:
        for place in members(bits):
            counts[place] = counts.get(place, 0) + 1
    most = max(counts.values())
    return [place for place in counts if counts[place] == most][0]
