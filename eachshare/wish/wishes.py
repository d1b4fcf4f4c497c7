"""Wishes: sets of rows for which there is a machine."""

from eachshare.base.checks import (
    are_below, check_below, check_known, check_row, has_parts, is_row, is_set_below,
)
from eachshare.base.houses import MAX_DEEDS
from eachshare.base.names import is_name, is_set
from eachshare.errors import InvalidOperation, InvalidRow, InvalidWish, TooMany
from eachshare.wish.machines import (
    branches, first_way, least_machine, listed, paired, tallies, turned_machine, ways,
)

MAX_STATES = 24
MAX_GIVEN = 100
MAX_COUNTED = 400
MAX_LISTED = 6
MAX_ROWS = 20000
_NO_MATE = "this is done with another wish with the same deeds only"


class Wish:
    """A set of rows of one to eight deeds, told by its least machine."""

    def __init__(self, deeds, targets, kept):
        _check_machine(deeds, targets, kept)
        least, ends = least_machine(targets, kept, MAX_STATES)
        self._deeds = deeds
        self._targets = least
        self._kept = ends
        self._places = {deed: place for place, deed in enumerate(deeds)}

    @classmethod
    def of_rows(cls, deeds, rows):
        """The wish with just these rows."""
        _check_deeds(deeds)
        if not isinstance(rows, tuple):
            raise InvalidOperation("the rows stand in a tuple")
        if not all([is_row(row, deeds) for row in rows]):
            raise InvalidRow("a row is a tuple of the deeds")
        # The beginnings of the longest row, and what begins no row, need a state each.
        if any([len(row) + 2 > MAX_STATES for row in rows]):
            raise TooMany(MAX_STATES)
        places = {deed: place for place, deed in enumerate(deeds)}
        targets, kept = branches([[places[deed] for deed in row] for row in rows], len(deeds))
        least, ends = least_machine(targets, kept, MAX_STATES)
        return cls(deeds, least, ends)

    @property
    def deeds(self):
        """The set of the deeds."""
        return self._deeds

    @property
    def targets(self):
        """For each state the states to which the deeds lead, in their order."""
        return self._targets

    @property
    def kept(self):
        """The set of the kept states."""
        return self._kept

    def __contains__(self, row):
        return is_row(row, self._deeds) and self._end(row, 0) in self._kept

    def __getitem__(self, at):
        if not has_parts(at, 2):
            raise InvalidOperation("a wish is asked by a pair of a state and a deed")
        state, deed = at
        check_below(state, len(self._targets))
        check_known(deed, self._deeds)
        return self._targets[state][self._places[deed]]

    def __iter__(self):
        raise TypeError("a wish is not iterated over")

    def __len__(self):
        return len(self._targets)

    def __bool__(self):
        return bool(self._kept)

    def __eq__(self, other):
        if not isinstance(other, Wish):
            return False
        return self._deeds == other._deeds and self._targets == other._targets and self._kept == other._kept

    def __str__(self):
        return f"wish of {len(self._targets)} states, {len(self._deeds)} deeds"

    def __repr__(self):
        # The text of an error shows what it keeps, and equal wishes should show alike.
        return f"Wish({self._deeds!r}, {self._targets!r}, {self._kept!r})"

    def after(self, row, state=0):
        """The state to which a row leads from a state."""
        check_row(row, self._deeds)
        check_below(state, len(self._targets))
        return self._end(row, state)

    def moved(self, state, deed):
        """The state to which a deed leads, both of which are right."""
        return self._targets[state][self._places[deed]]

    def keeps(self, state):
        """Whether a state, which is right, is kept."""
        return state in self._kept

    def far(self, state):
        """The set of all states to which rows lead from a state, itself among them."""
        check_below(state, len(self._targets))
        return tuple(sorted(ways(self._targets, state)))

    def __and__(self, other):
        self._check_mate(other)
        width = len(other._targets)
        kept = [state * width + mate for state in self._kept for mate in other._kept]
        targets, ends = least_machine(paired(self._targets, other._targets), kept, MAX_STATES)
        return Wish(self._deeds, targets, ends)

    def __or__(self, other):
        self._check_mate(other)
        # A wish and the one of all other rows have equally many states, so nothing is too many in between alone.
        return ~(~self & ~other)

    def __sub__(self, other):
        self._check_mate(other)
        return self & ~other

    # Python asks for these three only if the operand on the left is no wish.
    def __rand__(self, other):
        raise InvalidOperation(_NO_MATE)

    def __ror__(self, other):
        raise InvalidOperation(_NO_MATE)

    def __rsub__(self, other):
        raise InvalidOperation(_NO_MATE)

    def __invert__(self):
        lost = [state for state in range(len(self._targets)) if state not in self._kept]
        return Wish(self._deeds, self._targets, tuple(lost))

    def turned(self):
        """The wish of the rows from their ends to their beginnings."""
        targets, kept = turned_machine(self._targets, self._kept, MAX_STATES)
        return Wish(self._deeds, targets, kept)

    def renamed(self, names):
        """The wish with other names for some deeds."""
        if not _are_new_names(self._deeds, names):
            raise InvalidOperation("other names lead from some deeds to names, and no two deeds have one name then")
        places = {names.get(deed, deed): place for place, deed in enumerate(self._deeds)}
        deeds = tuple(sorted(places))
        targets = tuple([tuple([ends[places[deed]] for deed in deeds]) for ends in self._targets])
        return Wish(deeds, targets, self._kept)

    def count(self, size):
        """The number of the rows with so many deeds."""
        check_below(size, MAX_COUNTED + 1)
        return tallies(self._targets, self._kept, size)[size][0]

    def rows(self, size):
        """The ascending tuple of the rows with so many deeds."""
        check_below(size, MAX_LISTED + 1)
        counts = tallies(self._targets, self._kept, size)
        if counts[size][0] > MAX_ROWS:
            raise TooMany(MAX_ROWS)
        return tuple([self._named(row) for row in listed(self._targets, counts)])

    def shortest(self):
        """The first one in Python's order of the rows with the fewest deeds, or None."""
        return self._named(first_way(self._targets, self._kept))

    def parting(self, other):
        """The first one in Python's order of the shortest rows that exactly one of both wishes has, or None."""
        self._check_mate(other)
        width = len(other._targets)
        pairs = [(state, mate) for state in range(len(self._targets)) for mate in range(width)]
        goals = [state * width + mate for state, mate in pairs if (state in self._kept) != (mate in other._kept)]
        return self._named(first_way(paired(self._targets, other._targets), goals))

    def _end(self, row, state):
        """The state to which a row leads, both of which are right."""
        for deed in row:
            state = self._targets[state][self._places[deed]]
        return state

    def _named(self, row):
        """The deeds at the places that a row has, None for None."""
        if row is None:
            return None
        return tuple([self._deeds[place] for place in row])

    def _check_mate(self, other):
        """Raise InvalidOperation unless the value is a wish with the same deeds."""
        if not isinstance(other, Wish) or other._deeds != self._deeds:
            raise InvalidOperation(_NO_MATE)


def _check_deeds(deeds):
    """Raise InvalidWish unless a wish can have these deeds."""
    if not is_set(deeds) or not 1 <= len(deeds) <= MAX_DEEDS:
        raise InvalidWish("a wish has an ascending tuple of one to eight deeds")


def _check_machine(deeds, targets, kept):
    """Raise InvalidWish unless there is such a machine."""
    _check_deeds(deeds)
    if not isinstance(targets, tuple) or not 1 <= len(targets) <= MAX_GIVEN:
        raise InvalidWish("a wish is given by one to 100 states")
    if not all([are_below(ends, len(deeds), len(targets)) for ends in targets]):
        raise InvalidWish("each state has a tuple of the states to which the deeds lead")
    if not is_set_below(kept, len(targets)):
        raise InvalidWish("the kept states stand in an ascending tuple")


def _are_new_names(deeds, names):
    """Whether the value is a dict from some of the deeds to names, by which no two have one name."""
    if not isinstance(names, dict) or not all([deed in deeds and is_name(new) for deed, new in names.items()]):
        return False
    return len(set([names.get(deed, deed) for deed in deeds])) == len(deeds)
