"""Shares judged: whether a share does a wish, whether two shares do the same one, and which wish a share does."""

from eachshare.base.checks import has_parts, is_below
from eachshare.errors import InvalidOperation
from eachshare.share.checks import check_belongs, check_share, check_wish
from eachshare.wish.machines import least_machine, met, way_to
from eachshare.wish.wishes import MAX_STATES, Wish

MAX_PAIRS = 20000


class Pair:
    """Two of what deeds move, wishes or shares, side by side."""

    def __init__(self, one, other):
        self._one = one
        self._other = other

    def moved(self, place, deed):
        """The place of both behind a deed."""
        return (self._one.moved(place[0], deed), self._other.moved(place[1], deed))

    def parts(self, place):
        """Whether exactly one of both keeps its place."""
        return self._one.keeps(place[0]) != self._other.keeps(place[1])


def parting(wish, share):
    """The first one in Python's order of the shortest rows that exactly one of both has, or None."""
    _check_both(wish, share)
    pair = Pair(wish, share)
    return _first_parted(pair, _met(pair, (0, share.first), wish.deeds))


def parting_of(one, other):
    """The first one in Python's order of the shortest rows that exactly one of both shares has, or None."""
    check_share(one)
    check_share(other)
    if one.house != other.house:
        raise InvalidOperation("only shares of equal houses are judged together")
    pair = Pair(one, other)
    return _first_parted(pair, _met(pair, (one.first, other.first), one.house.deeds))


def same_paper(wish, share):
    """The table of all that comes up together, or a row that exactly one of both has."""
    _check_both(wish, share)
    pair = Pair(wish, share)
    found = _met(pair, (0, share.first), wish.deeds)
    row = _first_parted(pair, found)
    return ("same", tuple(sorted(found))) if row is None else ("row", row)


def is_same_paper(wish, share, value):
    """Whether the value is such a table, perhaps with more than comes up, or such a row."""
    _check_both(wish, share)
    if not has_parts(value, 2):
        return False
    word, shown = value
    if word == "row":
        return (shown in wish) != (shown in share)
    return word == "same" and _are_pairs(wish, share, shown) and _is_table(wish, share, shown)


def wish_of(share):
    """The wish that the share does."""
    check_share(share)
    deeds = share.house.deeds
    numbers = {standing: number for number, standing in enumerate(share.standings())}
    targets = [tuple([numbers[share.moved(standing, deed)] for deed in deeds]) for standing in numbers]
    kept = [number for standing, number in numbers.items() if share.keeps(standing)]
    least, ends = least_machine(targets, kept, MAX_STATES)
    return Wish(deeds, least, ends)


def _check_both(wish, share):
    check_wish(wish)
    check_share(share)
    check_belongs(share.house, wish)


def _met(pair, start, deeds):
    """All that comes up together, as it is met."""
    return met(pair, start, deeds, MAX_PAIRS)


def _first_parted(pair, found):
    """The row by which the first place was met that parts both, None if there is none."""
    for place in found:
        if pair.parts(place):
            return way_to(found, place)
    return None


def _are_pairs(wish, share, value):
    """Whether the value is an ascending tuple of pairs of a state of the wish and a standing of the share."""
    if not isinstance(value, tuple) or not all([_is_pair(wish, share, part) for part in value]):
        return False
    return all([one < other for one, other in zip(value, value[1:])])


def _is_pair(wish, share, value):
    return has_parts(value, 2) and is_below(value[0], len(wish)) and share.has_standing(value[1])


def _is_table(wish, share, places):
    """Whether both beginnings are among these places of both, and each deed stays in them, and none parts both."""
    pair = Pair(wish, share)
    known = set(places)
    if (0, share.first) not in known or any([pair.parts(place) for place in places]):
        return False
    return all([pair.moved(place, deed) in known for place in places for deed in wish.deeds])
