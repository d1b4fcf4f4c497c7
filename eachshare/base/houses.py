"""Houses: hands, and deeds that are done by one hand or by two together."""

from eachshare.base.names import is_name, is_set
from eachshare.errors import InvalidHouse, InvalidName, InvalidOperation, UnknownName

MAX_HANDS = 5
MAX_DEEDS = 8


class House:
    """One to five hands without a ring of links, and their one to eight deeds."""

    def __init__(self, hands, deeds):
        _check_hands(hands)
        _check_deeds(hands, deeds)
        links = _linked_pairs(deeds)
        if _has_ring(hands, links):
            raise InvalidHouse("the links of the hands form a ring")
        self._hands = hands
        self._doers = {deed: deeds[deed] for deed in sorted(deeds)}
        self._links = links
        self._apart = _apart_pairs(self._doers)
        self._above = _above_each(hands, links)

    @property
    def hands(self):
        """The set of the hands."""
        return self._hands

    @property
    def deeds(self):
        """The set of the deeds."""
        return tuple(self._doers)

    @property
    def links(self):
        """The ascending pairs of linked hands."""
        return self._links

    @property
    def apart(self):
        """The ascending pairs of deeds without a common hand."""
        return self._apart

    def __getitem__(self, deed):
        self._check_deed(deed)
        return self._doers[deed]

    def __iter__(self):
        raise TypeError("a house is not iterated over")

    def __contains__(self, value):
        return is_name(value) and value in self._hands

    def __len__(self):
        return len(self._hands)

    def __eq__(self, other):
        return isinstance(other, House) and self._hands == other._hands and self._doers == other._doers

    def __str__(self):
        return f"house of {len(self._hands)} hands, {len(self._doers)} deeds"

    def __repr__(self):
        # The text of an UnknownName shows what it keeps, and equal houses should show alike.
        return f"House({self._hands!r}, {self._doers!r})"

    def deeds_of(self, hand):
        """The set of the deeds that a hand does."""
        self._check_hand(hand)
        return tuple([deed for deed, doers in self._doers.items() if hand in doers])

    def are_apart(self, one, other):
        """Whether two deeds have no common hand."""
        self._check_deed(one)
        self._check_deed(other)
        return not _have_common(self._doers[one], self._doers[other])

    def above(self, hand):
        """The hand above a hand, None for a top."""
        self._check_hand(hand)
        return self._above[hand]

    def side(self, hand):
        """The set of a hand and of all hands that hang below it, nearer or further."""
        self._check_hand(hand)
        return tuple([low for low in self._hands if _is_on_side(self._above, low, hand)])

    def given(self, deed, hand):
        """The house in which one of the two hands of a deed does it alone."""
        self._check_deed(deed)
        self._check_hand(hand)
        doers = self._doers[deed]
        if len(doers) != 2 or hand not in doers:
            raise InvalidOperation("only a deed of two hands is given, to one of them")
        deeds = {**self._doers, deed: (hand,)}
        return House(self._hands, deeds)

    def as_one(self, one, other):
        """The house in which the first hand is both hands."""
        self._check_hand(one)
        self._check_hand(other)
        if one == other:
            raise InvalidOperation("a hand is not made one with itself")
        names = {hand: hand for hand in self._hands}
        names[other] = one
        return self._with_names(names, {deed: deed for deed in self._doers})

    def with_deed(self, deed, hands):
        """The house with one deed more."""
        if not is_name(deed):
            raise InvalidName("a deed has a name of one to eight letters a to z")
        if deed in self._doers:
            raise InvalidHouse("the house has this deed")
        deeds = {**self._doers, deed: hands}
        return House(self._hands, deeds)

    def without_deed(self, deed):
        """The house with one deed less."""
        self._check_deed(deed)
        return House(self._hands, {kept: self._doers[kept] for kept in self._doers if kept != deed})

    def renamed(self, *, hands=None, deeds=None):
        """The house with other names for some hands and some deeds."""
        hand_names = _new_names(self._hands, hands)
        deed_names = _new_names(self.deeds, deeds)
        return self._with_names(hand_names, deed_names)

    def _with_names(self, hand_names, deed_names):
        """The house whose hands and deeds have these names; hands with one name are one."""
        hands = sorted(set(list(hand_names.values())))
        deeds = {}
        for deed, doers in self._doers.items():
            deeds[deed_names[deed]] = tuple(sorted({hand_names[hand] for hand in doers}))
        return House(tuple(hands), deeds)

    def _check_hand(self, hand):
        if hand not in self:
            raise UnknownName(hand)

    def _check_deed(self, deed):
        # A value that is no name may be one that no dict can be asked for.
        if not is_name(deed) or deed not in self._doers:
            raise UnknownName(deed)


def _check_hands(hands):
    """Raise InvalidHouse if no house has these hands."""
    if not is_set(hands) or not 1 <= len(hands) <= MAX_HANDS:
        raise InvalidHouse("a house has an ascending tuple of one to five hands")


def _check_deeds(hands, deeds):
    """Raise InvalidHouse or InvalidName if no house of these hands has these deeds, rings aside."""
    if not isinstance(deeds, dict):
        raise InvalidHouse("the deeds are told by a dict")
    if not all([is_name(deed) for deed in deeds]):
        raise InvalidName("a deed has a name of one to eight letters a to z")
    if not 1 <= len(deeds) <= MAX_DEEDS:
        raise InvalidHouse("a house has one to eight deeds")
    if not all([_can_do(hands, doers) for doers in deeds.values()]):
        raise InvalidHouse("a deed has an ascending tuple of one or two hands of the house")


def _can_do(hands, doers):
    """Whether the doers are a set of one or two of the hands."""
    return is_set(doers) and 1 <= len(doers) <= 2 and all([hand in hands for hand in doers])


def _have_common(some, others):
    """Whether two sets of names have a common one."""
    return any([name in others for name in some])


def _linked_pairs(deeds):
    """The ascending pairs of hands that do a deed together."""
    return tuple(sorted({doers for doers in deeds.values() if len(doers) == 2}))


def _apart_pairs(doers):
    """The ascending pairs of deeds without a common hand, by a dict with ascending keys."""
    pairs = [(one, other) for one in doers for other in doers if one < other]
    return tuple([pair for pair in pairs if not _have_common(doers[pair[0]], doers[pair[1]])])


def _has_ring(hands, links):
    """Whether some link joins two hands that other links join already."""
    tree = {hand: hand for hand in hands}
    for one, other in links:
        kept, lost = tree[one], tree[other]
        if kept == lost:
            return True
        for hand in hands:
            if tree[hand] == lost:
                tree[hand] = kept
    return False


def _above_each(hands, links):
    """The dict from all hands to the hands above them, None for tops."""
    above = {}
    for top in hands:
        # Hands come in ascending order, so the first one of a tree is met first.
        if top not in above:
            above[top] = None
            reached = [top]
            while reached:
                hand = reached.pop()
                for low in _linked_to(hand, links):
                    if low not in above:
                        above[low] = hand
                        reached.append(low)
    return above


def _linked_to(hand, links):
    """The hands that have a link with this one."""
    return [other if one == hand else one for one, other in links if hand in (one, other)]


def _is_on_side(above, low, hand):
    """Whether the way up from the low hand comes to the other one."""
    while low is not None and low != hand:
        low = above[low]
    return low == hand


def _new_names(olds, names):
    """The dict from all old names to the new ones, by a dict from some of them or None."""
    if names is None:
        names = {}
    if not isinstance(names, dict):
        raise InvalidOperation("other names are told by a dict")
    if not all([old in olds and is_name(new) for old, new in names.items()]):
        raise InvalidOperation("other names lead from names that are there to names")
    told = {old: names.get(old, old) for old in olds}
    if len(set(list(told.values()))) != len(olds):
        raise InvalidOperation("two would have one name")
    return told
