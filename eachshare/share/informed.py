"""Informed shares, of which each state of a hand tells what the hand knows of the wish."""

from eachshare.base.checks import check_house
from eachshare.errors import InvalidOperation
from eachshare.share.checks import check_share, check_wish
from eachshare.share.joins import Scheme
from eachshare.share.judged import MAX_PAIRS, Pair, parting
from eachshare.share.steady import check_steady
from eachshare.wish.machines import met


def views(house, wish, share):
    """The dict from all hands to the states of the wish behind their pasts, for each state that a hand can have.

    A state that does not come up has None. There is no dict, but None, if some state does not tell which one it is.
    """
    check_house(house)
    check_wish(wish)
    check_share(share)
    check_steady(house, wish)
    if share.house != house:
        raise InvalidOperation("the share is one of another house")
    if parting(wish, share) is not None:
        raise InvalidOperation("the share does not do the wish")
    scheme = Scheme(house, wish)
    found = {hand: [None] * size for hand, size in share.sizes.items()}
    for standing, pairs in met(Pair(share, scheme), (share.first, scheme.start()), house.deeds, MAX_PAIRS):
        for hand, state, (base, seen) in zip(house.hands, standing, pairs):
            if found[hand][state] not in (None, seen):
                return None
            found[hand][state] = seen
    return {hand: tuple(states) for hand, states in found.items()}


def is_informed(house, wish, share):
    """Whether each state of each hand tells the state of the wish behind the hand's past."""
    return views(house, wish, share) is not None
