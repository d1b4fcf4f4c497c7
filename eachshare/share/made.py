"""Shares that are made of steady wishes, and papers that show for each wish whether there is one."""

from eachshare.base.checks import check_house, has_parts
from eachshare.errors import TooMany
from eachshare.share.checks import check_belongs, check_wish
from eachshare.share.joins import Scheme
from eachshare.share.judged import parting
from eachshare.share.shares import Share, hearer
from eachshare.share.steady import breach, check_steady, is_breach

MAX_SHARED = 8


def made(house, wish):
    """An informed share that does the wish, in which each hand has the pairs of the scheme as its states."""
    check_steady(house, wish)
    if len(wish) > MAX_SHARED:
        raise TooMany(MAX_SHARED)
    scheme = Scheme(house, wish)
    numbers = {hand: _numbered(_pairs(house, wish, scheme, hand)) for hand in house.hands}
    sizes = {hand: len(numbers[hand]) for hand in house.hands}
    tables = {deed: _table(house, scheme, numbers, deed) for deed in house.deeds}
    folds = {hand: _fold(scheme, numbers, hand, hearer(house, hand)) for hand in house.hands[1:]}
    first = numbers[house.hands[0]]
    kept = [first[pair] for pair in first if wish.keeps(pair[1])]
    return Share(house, sizes, tables, folds, tuple(kept))


def paper(house, wish):
    """A share that does the wish, or a breach."""
    # This refuses what is no house, no wish, or no wish of the house.
    found = breach(house, wish)
    if found is None:
        return ("share", made(house, wish))
    return ("breach",) + found


def is_paper(house, wish, value):
    """Whether the value is a share that does the wish, or a breach."""
    check_house(house)
    check_wish(wish)
    check_belongs(house, wish)
    if has_parts(value, 2):
        word, share = value
        of_house = word == "share" and isinstance(share, Share) and share.house == house
        return of_house and parting(wish, share) is None
    return has_parts(value, 3) and value[0] == "breach" and is_breach(house, wish, value[1:])


def _pairs(house, wish, scheme, hand):
    """The pairs that the hand can have, at the end of a row too, (0, 0) first."""
    if hand == house.hands[0]:
        # Tops of other trees tell to it, and then it can be in a state to which no deeds of its own tree lead.
        return [(0, state) for state in range(len(wish))]
    return scheme.pairs(hand)


def _numbered(pairs):
    """The dict from all pairs to their places."""
    return {pair: place for place, pair in enumerate(pairs)}


def _table(house, scheme, numbers, deed):
    """What a deed does with the states of its hands."""
    hands = house[deed]
    if len(hands) == 1:
        return tuple([_ends(house, scheme, numbers, deed, {hands[0]: pair})[0] for pair in numbers[hands[0]]])
    one, other = hands
    return tuple([
        tuple([_ends(house, scheme, numbers, deed, {one: pair, other: mate}) for mate in numbers[other]])
        for pair in numbers[one]
    ])


def _ends(house, scheme, numbers, deed, pairs):
    """The states of the hands of a deed behind it, by the dict from these to their pairs ahead of it."""
    moved = scheme.moved([pairs.get(hand, (0, 0)) for hand in house.hands], deed)
    # Pairs that come up together lead to such again; whatever others lead to does not matter.
    return tuple([numbers[hand].get(pair, 0) for hand, pair in zip(house.hands, moved) if hand in pairs])


def _fold(scheme, numbers, hand, upper):
    """What the states of a hand do with those of the hand to which it tells."""
    found = []
    for pair in numbers[hand]:
        heard = [(base, scheme.joined(hand, pair, state)) for base, state in numbers[upper]]
        found.append(tuple([numbers[upper].get(told, 0) for told in heard]))
    return tuple(found)
