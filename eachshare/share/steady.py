"""Steady wishes, and breaches of those that are not."""

from eachshare.base.checks import check_house, has_parts, is_row
from eachshare.base.rows import exchanged, is_exchange
from eachshare.errors import Unsteady
from eachshare.share.checks import check_belongs, check_wish
from eachshare.wish.machines import ways


def is_steady(house, wish):
    """Whether the wish has, with each row, all rows that are alike."""
    _check_both(house, wish)
    return not any([_forks(wish, pair) for pair in house.apart])


def commuting(wish):
    """The pairs of deeds that lead each state in both orders to the same state."""
    check_wish(wish)
    pairs = [(one, other) for one in wish.deeds for other in wish.deeds if one < other]
    return tuple([pair for pair in pairs if not _forks(wish, pair)])


def breach(house, wish):
    """A breach with as few deeds as possible, None if the wish is steady."""
    _check_both(house, wish)
    forks = [(pair, state, ends) for pair in house.apart for state, ends in _forks(wish, pair)]
    if not forks:
        return None
    heads = ways(wish.targets)
    tails = _tails(wish)
    found = []
    for pair, state, ends in forks:
        head = tuple([wish.deeds[place] for place in heads[state]])
        found.append((head + pair + tails[ends], len(head)))
    return min(found, key=lambda one: len(one[0]))


def is_breach(house, wish, value):
    """Whether the value is a breach, as short as possible or not."""
    _check_both(house, wish)
    if not has_parts(value, 2):
        return False
    row, place = value
    if not is_row(row, house.deeds) or not is_exchange(house, row, place):
        return False
    return (row in wish) != (exchanged(house, row, place) in wish)


def check_steady(house, wish):
    """Raise Unsteady if the wish is not steady for the house.

    As is_steady does, it refuses ahead of this what is no house, no wish, or no wish of the house. If there are further
    arguments, the house, the wish and these are checked one by one ahead of it.
    """
    if not is_steady(house, wish):
        raise Unsteady(breach(house, wish))


def _check_both(house, wish):
    check_house(house)
    check_wish(wish)
    check_belongs(house, wish)


def _forks(wish, pair):
    """Each state that the two deeds lead in their two orders to two states, with the ascending pair of these."""
    one, other = pair
    found = []
    for state in range(len(wish)):
        end = wish.moved(wish.moved(state, one), other)
        mate = wish.moved(wish.moved(state, other), one)
        if end != mate:
            found.append((state, (min(end, mate), max(end, mate))))
    return found


def _tails(wish):
    """The dict from all ascending pairs of states to a shortest row that leads one of both alone to a kept state."""
    states = range(len(wish))
    found = {(one, other): () for one in states for other in states
             if one < other and (one in wish.kept) != (other in wish.kept)}
    left = [(one, other) for one in states for other in states if one < other and (one, other) not in found]
    # In a least machine each two states have such a row, so each turn finds at least one that is a deed longer.
    while left:
        longer = {pair: _longer(wish, found, pair) for pair in left}
        left = [pair for pair in left if longer[pair] is None]
        for pair, row in longer.items():
            if row is not None:
                found[pair] = row
    return found


def _longer(wish, tails, pair):
    """A deed, and the tail of the pair of states to which it leads, None if there is none yet."""
    for deed in wish.deeds:
        end, mate = wish.moved(pair[0], deed), wish.moved(pair[1], deed)
        ends = (min(end, mate), max(end, mate))
        if ends in tails:
            return (deed,) + tails[ends]
    return None
