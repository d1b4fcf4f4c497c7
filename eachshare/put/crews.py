"""Crews, which lead a wish to some states by themselves, and deeds of two hands that are given to one of them."""

from eachshare.base.checks import check_house, check_row, has_parts
from eachshare.errors import InvalidOperation, TooMany
from eachshare.know.checks import check_hands, check_row_and_states, check_states
from eachshare.share.checks import check_wish
from eachshare.share.joins import ways_by
from eachshare.share.steady import breach, check_steady, is_breach, is_steady

MAX_FAMILY = 200


def is_crew(house, wish, row, states, hands):
    """Whether deeds of these hands alone lead from the state behind the row to one of the states."""
    return plan(house, wish, row, states, hands) is not None


def least_crews(house, wish, row, states):
    """The ascending tuple of the crews that contain no other one."""
    check_row_and_states(house, wish, row, states)
    state = wish.after(row)
    found = []
    # Smaller sets come first, so a crew that contains none that is found contains no other one at all.
    for hands in _sets_by_size(house.hands):
        if not any([_contains(hands, crew) for crew in found]):
            if _plan(house, wish, state, states, hands) is not None:
                found.append(hands)
    return tuple(sorted(found))


def plan(house, wish, row, states, hands):
    """The first one in Python's order of the shortest rows by which the hands are a crew, or None."""
    check_house(house)
    check_wish(wish)
    check_row(row, house.deeds)
    check_states(wish, states)
    check_hands(house, hands)
    check_steady(house, wish)
    return _plan(house, wish, wish.after(row), states, hands)


def gifted(house, gifts):
    """The house in which the given deeds are done by these hands alone."""
    check_house(house)
    _check_gifts(house, gifts)
    return _gifted(house, gifts)


def is_good(house, wish, gifts):
    """Whether the wish is steady for the house with these gifts."""
    _check_given(house, wish, gifts)
    return is_steady(_gifted(house, gifts), wish)


def greatest_gifts(house, wish):
    """The ascending tuple of the good gifts that are contained in no other good ones."""
    check_steady(house, wish)
    gifts = [gift for gift in _gifts_of(house, house.deeds) if is_steady(_gifted(house, (gift,)), wish)]
    pairs = {}
    for one in gifts:
        for other in gifts:
            if one[0] < other[0] and is_steady(_gifted(house, (one, other)), wish):
                pairs[one, other] = True
    # Whether two deeds are apart hangs on their own hands alone, so gifts are good if each two of them are.
    families = [()]
    for gift in gifts:
        families = families + [family + (gift,) for family in families if _can_take(pairs, family, gift)]
    found = [family for family in families if not _can_grow(pairs, family, gifts)]
    if len(found) > MAX_FAMILY:
        raise TooMany(MAX_FAMILY)
    return tuple(sorted(found))


def against(house, wish, gifts):
    """For each further gift with which the good gifts are not good a breach that shows it."""
    _check_good(house, wish, gifts)
    return tuple([(gift, breach(more, wish)) for gift, more in _bad_ones_more(house, wish, gifts)])


def is_against(house, wish, gifts, value):
    """Whether the value is such a tuple."""
    _check_good(house, wish, gifts)
    found = _bad_ones_more(house, wish, gifts)
    if not has_parts(value, len(found)):
        return False
    return all([_is_shown(wish, gift, more, part) for (gift, more), part in zip(found, value)])


def _sets_by_size(hands):
    """All sets of these hands, the smaller ones first."""
    found = [()]
    for hand in hands:
        found = found + [some + (hand,) for some in found]
    return sorted(found, key=len)


def _contains(hands, others):
    """Whether the first set has all hands of the other one."""
    return all([hand in hands for hand in others])


def _plan(house, wish, state, states, hands):
    """The first one of the shortest rows of deeds of these hands alone from a state to one of the states, or None."""
    deeds = [deed for deed in house.deeds if _contains(hands, house[deed])]
    for end, row in ways_by(wish, deeds, state).items():
        if end in states:
            return row
    return None


def _check_gifts(house, value):
    """Raise InvalidOperation if the value is no ascending tuple of gifts of different deeds."""
    if not isinstance(value, tuple) or not all([_is_gift(house, gift) for gift in value]):
        raise InvalidOperation("a gift is a pair of a deed with two hands and one of these")
    if not all([one[0] < other[0] for one, other in zip(value, value[1:])]):
        raise InvalidOperation("gifts stand in an ascending tuple and have different deeds")


def _is_gift(house, value):
    """Whether the value is a pair of a deed with two hands and one of these."""
    if not has_parts(value, 2) or value[0] not in house.deeds:
        return False
    return len(house[value[0]]) == 2 and value[1] in house[value[0]]


def _check_given(house, wish, gifts):
    """Raise the error of a house, a steady wish of it and gifts, if one is wrong."""
    check_house(house)
    check_wish(wish)
    _check_gifts(house, gifts)
    check_steady(house, wish)


def _check_good(house, wish, gifts):
    """The same, and raise InvalidOperation if the gifts are not good."""
    if not is_good(house, wish, gifts):
        raise InvalidOperation("the wish is not steady for the house with these gifts")


def _gifted(house, gifts):
    """The house with some gifts, by gifts that are right."""
    for deed, hand in gifts:
        house = house.given(deed, hand)
    return house


def _gifts_of(house, deeds):
    """All gifts of some deeds, ascending."""
    return [(deed, hand) for deed in deeds for hand in house[deed] if len(house[deed]) == 2]


def _can_take(pairs, family, gift):
    """Whether a gift is good together with each one of a family, by the dict from all good pairs."""
    return all([(min(one, gift), max(one, gift)) in pairs for one in family])


def _can_grow(pairs, family, gifts):
    """Whether one of the gifts is good together with each one of a family."""
    return any([_can_take(pairs, family, gift) for gift in gifts])


def _bad_ones_more(house, wish, gifts):
    """The pairs of a further gift with which the gifts are not good and of the house with it, ascending."""
    given = [deed for deed, hand in gifts]
    further = _gifts_of(house, [deed for deed in house.deeds if deed not in given])
    found = [(gift, _gifted(house, gifts + (gift,))) for gift in further]
    return [(gift, more) for gift, more in found if not is_steady(more, wish)]


def _is_shown(wish, gift, more, value):
    """Whether the value is a pair of the gift and of a breach of the wish in the house with it."""
    return has_parts(value, 2) and value[0] == gift and is_breach(more, wish, value[1])
