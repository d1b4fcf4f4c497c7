"""Shares: for each hand a small machine that moves at the hand's own deeds only."""

from eachshare.base.checks import (
    are_below, check_house, check_known, check_row, has_parts, is_below, is_row, is_set_below,
)
from eachshare.errors import InvalidOperation, InvalidShare
from eachshare.wish.machines import met

MAX_LOCAL = 64
MAX_STANDINGS = 20000


class Share:
    """The machines of all hands of a house, and how the hands tell their states at the end of a row."""

    def __init__(self, house, sizes, tables, folds, kept):
        check_house(house)
        _check_sizes(house, sizes)
        _check_tables(house, sizes, tables)
        _check_folds(house, sizes, folds)
        if not is_set_below(kept, sizes[house.hands[0]]):
            raise InvalidShare("the kept states of the first hand stand in an ascending tuple")
        self._house = house
        self._sizes = {hand: sizes[hand] for hand in house.hands}
        self._tables = {deed: tables[deed] for deed in house.deeds}
        self._folds = {hand: folds[hand] for hand in house.hands[1:]}
        self._kept = kept
        places = {hand: place for place, hand in enumerate(house.hands)}
        self._places = {deed: [places[hand] for hand in house[deed]] for deed in house.deeds}
        self._telling = _telling(house, house.hands[0])

    @property
    def house(self):
        """The house."""
        return self._house

    @property
    def sizes(self):
        """The dict from all hands to their numbers of states."""
        return dict(self._sizes)

    @property
    def tables(self):
        """The dict from all deeds to what they do with the states of their hands."""
        return dict(self._tables)

    @property
    def folds(self):
        """The dict from all hands but the first one to what their states do with that of the hand they tell to."""
        return dict(self._folds)

    @property
    def kept(self):
        """The set of the kept states of the first hand."""
        return self._kept

    @property
    def first(self):
        """The standing of zeros."""
        return (0,) * len(self._sizes)

    def __contains__(self, row):
        return is_row(row, self._house.deeds) and self._told(self._end(row)) in self._kept

    def __len__(self):
        return len(list(range(sum(self._sizes.values()))))

    def __eq__(self, other):
        if not isinstance(other, Share):
            return False
        if self._house != other._house or self._sizes != other._sizes or self._kept != other._kept:
            return False
        return self._tables == other._tables and self._folds == other._folds

    def __str__(self):
        return f"share of {len(self._house)} hands, {len(self)} states"

    def __repr__(self):
        # The text of an error shows what it keeps, and equal shares should show alike.
        return f"Share({self._house!r}, {self._sizes!r}, {self._tables!r}, {self._folds!r}, {self._kept!r})"

    def step(self, standing, deed):
        """The standing behind a deed."""
        self._check_standing(standing)
        check_known(deed, self._house.deeds)
        return self._moved(standing, deed)

    def after(self, row):
        """The standing behind a row."""
        check_row(row, self._house.deeds)
        return self._end(row)

    def told(self, standing):
        """The state of the first hand when all hands have told."""
        self._check_standing(standing)
        return self._told(standing)

    def standings(self):
        """The set of all standings to which rows lead."""
        return tuple(sorted(met(self, self.first, self._tables, MAX_STANDINGS)))

    def moved(self, standing, deed):
        """The standing behind a deed, both of which are right."""
        return self._moved(standing, deed)

    def keeps(self, standing):
        """Whether a row that leads to a standing, which is right, is kept."""
        return self._told(standing) in self._kept

    def has_standing(self, value):
        """Whether the value is a tuple of states of all hands."""
        sizes = list(self._sizes.values())
        return has_parts(value, len(sizes)) and all([is_below(state, size) for state, size in zip(value, sizes)])

    def _end(self, row):
        standing = self.first
        for deed in row:
            standing = self._moved(standing, deed)
        return standing

    def _moved(self, standing, deed):
        """The standing behind a deed, both of which are right."""
        states = list(standing)
        places = self._places[deed]
        table = self._tables[deed]
        if len(places) == 1:
            place = places[0]
            states[place] = table[states[place]]
        else:
            one, other = places
            states[one], states[other] = table[states[one]][states[other]]
        return tuple(states)

    def _told(self, standing):
        """The state of the first hand when all hands have told, by a standing that is right."""
        states = dict(zip(self._sizes, standing))
        first = self._house.hands[0]
        for hand, upper in self._telling:
            states[upper] = self._folds[hand][states[hand]][states[upper]]
        return states[first]

    def _check_standing(self, value):
        """Raise InvalidOperation unless the value is a tuple of states of all hands."""
        if not self.has_standing(value):
            raise InvalidOperation("a standing has a state of each hand, in the order of the hands")


def hearer(house, hand):
    """The hand to which a hand tells, None for the first hand."""
    first = house.hands[0]
    if hand == first:
        return None
    return house.above(hand) or first


def _telling(house, upper):
    """The pairs (hand, hearer) for all that comes to this hearer, at once or by others, in the order of telling."""
    found = []
    for hand in house.hands:
        if hearer(house, hand) == upper:
            found = found + _telling(house, hand) + [(hand, upper)]
    return found


def _check_keys(value, keys):
    """Raise InvalidShare unless the value is a dict with just these keys."""
    if not isinstance(value, dict) or len(value) != len(keys) or not all([key in value for key in keys]):
        raise InvalidShare("each part of a share has just the hands or deeds that it should have")


def _check_sizes(house, sizes):
    """Raise InvalidShare unless the sizes are right."""
    _check_keys(sizes, house.hands)
    if not all([is_below(size, MAX_LOCAL + 1) and size > 0 for size in sizes.values()]):
        raise InvalidShare("a hand has one to 64 states")


def _check_tables(house, sizes, tables):
    """Raise InvalidShare unless the tables are right, by sizes that are."""
    _check_keys(tables, house.deeds)
    for deed in house.deeds:
        many = [sizes[hand] for hand in house[deed]]
        if len(many) == 1 and not are_below(tables[deed], many[0], many[0]):
            raise InvalidShare("a deed of one hand has a tuple of the states to which it leads")
        if len(many) == 2 and not _are_pairs(tables[deed], many[0], many[1]):
            raise InvalidShare("a deed of two hands has tuples of pairs of states")


def _check_folds(house, sizes, folds):
    """Raise InvalidShare unless the folds are right, by sizes that are."""
    _check_keys(folds, house.hands[1:])
    for hand in house.hands[1:]:
        many = sizes[hearer(house, hand)]
        if not has_parts(folds[hand], sizes[hand]) or not all([are_below(row, many, many) for row in folds[hand]]):
            raise InvalidShare("a hand has tuples of the states of the hand to which it tells")


def _are_pairs(value, many, others):
    """Whether the value has, for each state of two hands of these sizes, a pair of states of them."""
    if not has_parts(value, many) or not all([has_parts(row, others) for row in value]):
        return False
    return all([_is_pair(pair, many, others) for row in value for pair in row])


def _is_pair(value, size, other):
    """Whether the value is a pair of states of hands of these sizes."""
    return has_parts(value, 2) and is_below(value[0], size) and is_below(value[1], other)
