"""Wishes that are put together: of two wishes one behind the other, and of what each hand wants of its own row."""

from eachshare.base.checks import check_house, has_parts, is_row
from eachshare.errors import InvalidOperation, TooMany
from eachshare.put.guesses import least_of
from eachshare.share.checks import check_belongs, check_wish
from eachshare.share.joins import deeds_without, ways_by
from eachshare.share.steady import check_steady
from eachshare.wish.machines import met, way_to
from eachshare.wish.wishes import MAX_STATES, Wish

MAX_PRODUCT = 40
MAX_TUPLES = 20000


class Splits:
    """How deeds are split into a row of one wish and then a row of another one, up to alike rows.

    A place has the states of both wishes behind these rows, and the hands that have begun with the second one. For a
    hand with one deed alone it does not matter which of them are in the first row, so it is left out.
    """

    def __init__(self, house, one, other):
        several = [hand for hand in house.hands if len(house.deeds_of(hand)) > 1]
        self._doers = {deed: [hand for hand in house[deed] if hand in several] for deed in house.deeds}
        self._one = one
        self._other = other

    def ends(self, place, deed):
        """The places to which a deed leads."""
        state, mate, begun = place
        doers = self._doers[deed]
        found = [(state, self._other.moved(mate, deed), tuple(sorted(set(list(begun) + doers))))]
        if not any([hand in begun for hand in doers]):
            found.append((self._one.moved(state, deed), mate, begun))
        return found

    def keeps(self, place):
        """Whether both rows are in their wishes."""
        return self._one.keeps(place[0]) and self._other.keeps(place[1])


class Hidden:
    """How the deeds of a hand, and ones of the others between them, lead from state to state of a wish."""

    def __init__(self, house, wish, hand):
        self._wish = wish
        others = deeds_without(house, (hand,))
        self._far = [sorted(ways_by(wish, others, state)) for state in range(len(wish))]

    def starts(self):
        """The states to which rows without the hand lead."""
        return self._far[0]

    def ends(self, state, deed):
        """The states to which a deed of the hand leads."""
        return self._far[self._wish.moved(state, deed)]

    def keeps(self, state):
        """Whether a state is kept."""
        return self._wish.keeps(state)


class Refusals:
    """How deeds lead through wishes of hands, of which one at least is to refuse the row."""

    def __init__(self, wishes):
        self._wishes = wishes

    def ends(self, place, deed):
        """The place to which a deed leads, in a list."""
        hand, state = place
        wish = self._wishes[hand]
        return [(hand, wish.moved(state, deed) if deed in wish.deeds else state)]

    def keeps(self, place):
        """Whether the wish of the hand refuses the row."""
        hand, state = place
        return not self._wishes[hand].keeps(state)


class Tuples:
    """How deeds move the states of all own wishes and that of the wish itself."""

    def __init__(self, house, wish, wishes):
        self._wishes = list(wishes.values()) + [wish]
        self._deeds = house.deeds

    def start(self):
        """The states behind no deed."""
        return (0,) * len(self._wishes)

    def moved(self, place, deed):
        """The states behind a deed."""
        return tuple([
            wish.moved(state, deed) if deed in wish.deeds else state for wish, state in zip(self._wishes, place)
        ])

    def is_shared(self, place):
        """Whether all own wishes keep their states, but the wish does not."""
        kept = [wish.keeps(state) for wish, state in zip(self._wishes, place)]
        return kept == [True] * (len(kept) - 1) + [False]

    def behind(self, row):
        """The states behind a row."""
        place = self.start()
        for deed in row:
            place = self.moved(place, deed)
        return place


def then_alike(house, one, other):
    """The wish of all rows that are alike to a row of the first wish and then a row of the second one."""
    check_house(house)
    check_wish(one)
    check_wish(other)
    check_belongs(house, one)
    check_belongs(house, other)
    check_steady(house, one)
    check_steady(house, other)
    if len(one) * len(other) > MAX_PRODUCT:
        raise TooMany(MAX_PRODUCT)
    targets, kept = least_of(Splits(house, one, other), [(0, 0, ())], house.deeds, MAX_STATES)
    return Wish(house.deeds, targets, kept)


def own_wishes(house, wish):
    """The dict from all hands that have deeds to their own wishes."""
    check_steady(house, wish)
    return _own_wishes(house, wish)


def from_own(house, wishes):
    """The wish of all rows whose own rows are in the wishes of a dict from some hands."""
    check_house(house)
    if not _are_own(house, wishes):
        raise InvalidOperation("some hands that have deeds lead to wishes of just their deeds")
    starts = [(hand, 0) for hand in house.hands if hand in wishes]
    # A row that is not in this wish is refused by one of them at least, so the other rows have a machine of this sort.
    targets, kept = least_of(Refusals(wishes), starts, house.deeds, MAX_STATES)
    return ~Wish(house.deeds, targets, kept)


def own_paper(house, wish):
    """A row that is fine by each and not in the wish, or that there is none."""
    check_steady(house, wish)
    row = _first_shared(house, Tuples(house, wish, _own_wishes(house, wish)))
    return ("own",) if row is None else ("shared", row)


def is_own_paper(house, wish, value):
    """Whether the value is such a paper."""
    check_steady(house, wish)
    tuples = Tuples(house, wish, _own_wishes(house, wish))
    shared = _first_shared(house, tuples)
    if has_parts(value, 1):
        return value[0] == "own" and shared is None
    if not has_parts(value, 2):
        return False
    word, row = value
    return word == "shared" and is_row(row, house.deeds) and tuples.is_shared(tuples.behind(row))


def _own_wishes(house, wish):
    return {hand: _own_wish(house, wish, hand) for hand in house.hands if house.deeds_of(hand)}


def _own_wish(house, wish, hand):
    """The wish of the own rows of a hand of all rows of the wish."""
    deeds = house.deeds_of(hand)
    hidden = Hidden(house, wish, hand)
    targets, kept = least_of(hidden, hidden.starts(), deeds, MAX_STATES)
    return Wish(deeds, targets, kept)


def _are_own(house, value):
    """Whether the value is a dict from some hands that have deeds to wishes over just their deeds."""
    if not isinstance(value, dict) or not all([hand in house for hand in value]):
        return False
    return all([isinstance(wish, Wish) and wish.deeds == house.deeds_of(hand) for hand, wish in value.items()])


def _first_shared(house, tuples):
    """The first one of the shortest rows that are fine by each and not in the wish, or None."""
    found = met(tuples, tuples.start(), house.deeds, MAX_TUPLES)
    for place in found:
        if tuples.is_shared(place):
            return way_to(found, place)
    return None
