"""Joins and outlooks: what the hands know of a steady wish, and how they put it together."""

from eachshare.base.checks import are_below, check_below, check_house, check_known, check_row, has_parts, is_below
from eachshare.errors import InvalidNumber, InvalidOperation
from eachshare.share.checks import check_wish
from eachshare.share.steady import check_steady
from eachshare.wish.machines import met, way_to

MAX_OUTLOOKS = 2000


class Scheme:
    """How deeds move the pairs of the hands, for a wish that is steady for the house."""

    def __init__(self, house, wish):
        places = {hand: place for place, hand in enumerate(house.hands)}
        self._wish = wish
        self._hands = house.hands
        self._doers = {deed: [places[hand] for hand in _lower_first(house, deed)] for deed in house.deeds}
        self._joins = {hand: _leads_of(house, wish, hand) for hand in house.hands}

    def start(self):
        """The outlook behind no deed."""
        return ((0, 0),) * len(self._hands)

    def pairs(self, hand):
        """All pairs that the hand can have, and perhaps more, (0, 0) first."""
        return [(base, end) for base, ends in self._joins[hand].items() for end in sorted(ends)]

    def joined(self, hand, pair, state):
        """The join of the hand's pair with a state that comes of its base without a hand of its side."""
        base, end = pair
        return self._joins[hand][base][end][state]

    def moved(self, pairs, deed):
        """The outlook behind a deed, by the one ahead of it."""
        found = list(pairs)
        places = self._doers[deed]
        low = places[0]
        base, state = pairs[low]
        if len(places) == 1:
            found[low] = (base, self._wish.moved(state, deed))
        else:
            high = places[1]
            upper, mate = pairs[high]
            end = self._wish.moved(self.joined(self._hands[low], pairs[low], mate), deed)
            found[low] = (end, end)
            found[high] = (upper, end)
        return tuple(found)

    def behind(self, row):
        """The outlook behind a row."""
        pairs = self.start()
        for deed in row:
            pairs = self.moved(pairs, deed)
        return pairs

    def outlooks(self):
        """The dict from all outlooks to how they are met."""
        return met(self, self.start(), self._wish.deeds, MAX_OUTLOOKS)


def side_ends(house, wish, hand, state):
    """The set of the states to which rows of deeds lead from a state all of whose hands are in the hand's side."""
    _check_beginning(house, wish, hand, state)
    check_steady(house, wish)
    return tuple(sorted(ways_by(wish, _side_deeds(house, hand), state)))


def rest_ends(house, wish, hand, state):
    """The set of the states to which rows of deeds lead from a state that have no hand of the hand's side."""
    _check_beginning(house, wish, hand, state)
    check_steady(house, wish)
    return tuple(sorted(ways_by(wish, deeds_without(house, house.side(hand)), state)))


def join(house, wish, hand, state, one, other):
    """The state behind two rows from a state, the first one of the hand's side, by the states behind each of them."""
    _check_beginning(house, wish, hand, state)
    check_steady(house, wish)
    found = _leads(house, wish, hand, state)
    _check_end(wish, one, found)
    _check_end(wish, other, ways_by(wish, deeds_without(house, house.side(hand)), state))
    return found[one][other]


def outlook(house, wish, row):
    """The pairs of all hands behind a row."""
    check_house(house)
    check_wish(wish)
    check_row(row, house.deeds)
    check_steady(house, wish)
    return Scheme(house, wish).behind(row)


def next_outlook(house, wish, outlook, deed):
    """The pairs of all hands behind a row and one deed more, by those behind the row."""
    check_house(house)
    check_wish(wish)
    check_known(deed, house.deeds)
    check_steady(house, wish)
    scheme = Scheme(house, wish)
    found = scheme.outlooks()
    if not are_pairs(outlook, len(house), len(wish)) or outlook not in found:
        raise InvalidOperation("the outlook stands behind no row")
    return scheme.moved(outlook, deed)


def outlooks(house, wish):
    """The set of all outlooks."""
    check_steady(house, wish)
    return tuple(sorted(Scheme(house, wish).outlooks()))


def deeds_without(house, hands):
    """The deeds that none of these hands does, ascending."""
    return [deed for deed in house.deeds if not any([hand in hands for hand in house[deed]])]


def ways_by(wish, deeds, state):
    """The dict from all states to which rows of these deeds lead from a state to the first one of the shortest rows."""
    found = met(wish, state, deeds, len(wish))
    return {end: way_to(found, end) for end in found}


def _check_beginning(house, wish, hand, state):
    check_house(house)
    check_wish(wish)
    check_known(hand, house.hands)
    check_below(state, len(wish))


def _check_end(wish, value, ends):
    """Raise InvalidNumber if the value is none of the states that are keys of the dict."""
    # In Python True is 1, and some values are no keys at all.
    if not is_below(value, len(wish)) or value not in ends:
        raise InvalidNumber(value)


def _side_deeds(house, hand):
    """The deeds all of whose hands are in the hand's side, ascending."""
    side = house.side(hand)
    return [deed for deed in house.deeds if all([doer in side for doer in house[deed]])]


def _leads_of(house, wish, hand):
    """The dict from all bases that the hand can have to where deeds of its side lead from them, as _leads tells it."""
    return {base: _leads(house, wish, hand, base) for base in _bases(house, wish, hand)}


def _bases(house, wish, hand):
    """The states, ascending, that can be right behind a deed of the hand and the one above it, and 0."""
    upper = house.above(hand)
    common = [deed for deed in house.deeds_of(hand) if upper in house[deed]]
    bases = {wish.moved(state, deed) for state in range(len(wish)) for deed in common}
    bases.add(0)
    return sorted(bases)


def _leads(house, wish, hand, state):
    """The dict from the ends of the hand's side from a state to where a row to each of them leads each state."""
    columns = {deed: [wish.moved(each, deed) for each in range(len(wish))] for deed in wish.deeds}
    found = {state: list(range(len(wish)))}
    for end, came in met(wish, state, _side_deeds(house, hand), len(wish)).items():
        if came is not None:
            ahead, deed = came
            found[end] = [columns[deed][each] for each in found[ahead]]
    return found


def _lower_first(house, deed):
    """The hands of a deed, the one that hangs below the other first."""
    hands = house[deed]
    return hands[::-1] if house.above(hands[-1]) == hands[0] else hands


def are_pairs(value, many, limit):
    """Whether the value is a tuple of so many pairs of states."""
    # In Python True is 1, and a tuple that has it would be found among the outlooks.
    return has_parts(value, many) and all([are_below(pair, 2, limit) for pair in value])
