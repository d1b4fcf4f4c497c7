"""Crews, which lead a wish to some states by themselves, and deeds of two hands that are given to one of them."""

from eachshare.base.checks import check_house, check_row, has_parts
from eachshare.errors import InvalidOperation, TooMany
from eachshare.know.checks import check_hands, check_row_and_states, check_states
from eachshare.put.several import members, united
from eachshare.share.checks import check_wish
from eachshare.share.joins import ways_by
from eachshare.share.steady import breach, check_steady, commuting, is_breach, is_steady

MAX_FAMILY = 200


def is_crew(house, wish, row, states, hands):
    """Whether deeds of these hands alone lead from the state behind the row to one of the states."""
    return plan(house, wish, row, states, hands) is not None


def least_crews(house, wish, row, states):
    """The ascending tuple of the crews that contain no other one."""
    check_row_and_states(house, wish, row, states)
    state = wish.after(row)
    found = []
    # Smaller sets come first, so a crew that contains none that is found contains no other one at all.
    for hands in _sets_by_size(house.hands):
        if not any([_contains(hands, crew) for crew in found]):
            if _plan(house, wish, state, states, hands) is not None:
                found.append(hands)
    return tuple(sorted(found))


def plan(house, wish, row, states, hands):
    """The first one in Python's order of the shortest rows by which the hands are a crew, or None."""
    check_house(house)
    check_wish(wish)
    check_row(row, house.deeds)
    check_states(wish, states)
    check_hands(house, hands)
    check_steady(house, wish)
    return _plan(house, wish, wish.after(row), states, hands)


def gifted(house, gifts):
    """The house in which the given deeds are done by these hands alone."""
    check_house(house)
    _check_gifts(house, gifts)
    return _gifted(house, gifts)


def is_good(house, wish, gifts):
    """Whether the wish is steady for the house with these gifts."""
    _check_given(house, wish, gifts)
    return is_steady(_gifted(house, gifts), wish)


def greatest_gifts(house, wish):
    """The ascending tuple of the good gifts that are contained in no other good ones."""
    check_steady(house, wish)
    commutes = {pair: True for pair in commuting(wish)}
    gifts = [gift for gift in _gifts_of(house, house.deeds) if _is_good_alone(house, commutes, gift)]
    rivals = _rivals(commutes, gifts)
    families = [0]
    for place in range(len(gifts)):
        families = _with_one_more(families, rivals, place)
        # Each family stays or grows when another gift comes in, so there will not be fewer of them.
        if len(families) > MAX_FAMILY:
            raise TooMany(MAX_FAMILY)
    return tuple(sorted([tuple([gifts[place] for place in members(bits)]) for bits in families]))


def against(house, wish, gifts):
    """For each further gift with which the good gifts are not good a breach that shows it."""
    _check_good(house, wish, gifts)
    return tuple([(gift, breach(more, wish)) for gift, more in _bad_ones_more(house, wish, gifts)])


def is_against(house, wish, gifts, value):
    """Whether the value is such a tuple."""
    _check_good(house, wish, gifts)
    found = _bad_ones_more(house, wish, gifts)
    if not has_parts(value, len(found)):
        return False
    return all([_is_shown(wish, gift, more, part) for (gift, more), part in zip(found, value)])


def _sets_by_size(hands):
    """All sets of these hands, the smaller ones first."""
    found = [()]
    for hand in hands:
        found = found + [some + (hand,) for some in found]
    return sorted(found, key=len)


def _contains(hands, others):
    """Whether the first set has all hands of the other one."""
    return all([hand in hands for hand in others])


def _plan(house, wish, state, states, hands):
    """The first one of the shortest rows of deeds of these hands alone from a state to one of the states, or None."""
    deeds = [deed for deed in house.deeds if _contains(hands, house[deed])]
    for end, row in ways_by(wish, deeds, state).items():
        if end in states:
            return row
    return None


def _check_gifts(house, value):
    """Raise InvalidOperation if the value is no ascending tuple of gifts of different deeds."""
    if not isinstance(value, tuple) or not all([_is_gift(house, gift) for gift in value]):
        raise InvalidOperation("a gift is a pair of a deed with two hands and one of these")
    if not all([one[0] < other[0] for one, other in zip(value, value[1:])]):
        raise InvalidOperation("gifts stand in an ascending tuple and have different deeds")


def _is_gift(house, value):
    """Whether the value is a pair of a deed with two hands and one of these."""
    if not has_parts(value, 2) or value[0] not in house.deeds:
        return False
    return len(house[value[0]]) == 2 and value[1] in house[value[0]]


def _check_given(house, wish, gifts):
    """Raise the error of a house, a steady wish of it and gifts, if one is wrong."""
    check_house(house)
    check_wish(wish)
    _check_gifts(house, gifts)
    check_steady(house, wish)


def _check_good(house, wish, gifts):
    """The same, and raise InvalidOperation if the gifts are not good."""
    if not is_good(house, wish, gifts):
        raise InvalidOperation("the wish is not steady for the house with these gifts")


def _gifted(house, gifts):
    """The house with some gifts, by gifts that are right."""
    for deed, hand in gifts:
        house = house.given(deed, hand)
    return house


def _gifts_of(house, deeds):
    """All gifts of some deeds, ascending."""
    return [(deed, hand) for deed in deeds for hand in house[deed] if len(house[deed]) == 2]


def _goes_with(commutes, gift, deed, hands):
    """Whether a gift is good beside a deed of these hands, by a dict of the pairs of deeds that commute."""
    given, hand = gift
    return hand in hands or (min(given, deed), max(given, deed)) in commutes


def _is_good_alone(house, commutes, gift):
    """Whether a gift without others is good for a steady wish."""
    return all([_goes_with(commutes, gift, deed, house[deed]) for deed in house.deeds if deed != gift[0]])


def _rivals(commutes, gifts):
    """For each gift the bits of those that are not good together with it; each gift alone is good.

    Whether two deeds are apart hangs on their own hands alone, so gifts are good if each two of them are.
    """
    found = [0] * len(gifts)
    for place, gift in enumerate(gifts):
        for other, (deed, hand) in enumerate(gifts):
            # No pair of the dict has a deed twice, so both gifts of one deed are rivals.
            if not _goes_with(commutes, gift, deed, (hand,)):
                found[place] = found[place] | 1 << other
    return found


def _with_one_more(families, rivals, place):
    """The bits of the greatest families up to the gift at this place, by those of the gifts ahead of it."""
    found = {}
    for bits in families:
        more = (bits & ~rivals[place]) | (1 << place)
        if more & bits == bits:
            found[more] = True
        else:
            found[bits] = True
            # In place of its rivals the gift can make a family that is contained in another one.
            if _is_greatest(more, rivals, place):
                found[more] = True
    return list(found)


def _is_greatest(bits, rivals, place):
    """Whether a family has, or has a rival of, each gift up to this place."""
    seen = bits | united(rivals, members(bits))
    return all([seen >> other & 1 for other in range(place)])


def _bad_ones_more(house, wish, gifts):
    """The pairs of a further gift with which the gifts are not good and of the house with it, ascending."""
    given = [deed for deed, hand in gifts]
    further = _gifts_of(house, [deed for deed in house.deeds if deed not in given])
    found = [(gift, _gifted(house, gifts + (gift,))) for gift in further]
    return [(gift, more) for gift, more in found if not is_steady(more, wish)]


def _is_shown(wish, gift, more, value):
    """Whether the value is a pair of the gift and of a breach of the wish in the house with it."""
    return has_parts(value, 2) and value[0] == gift and is_breach(more, wish, value[1])
