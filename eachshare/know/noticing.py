"""Whether some hand notices when a steady wish is in a lasting set of states."""

from eachshare.base.checks import check_house, has_parts, is_row
from eachshare.errors import TooMany
from eachshare.know.checks import check_row_and_set, check_set, check_states
from eachshare.share.checks import check_wish
from eachshare.share.joins import Scheme, ways_by
from eachshare.share.steady import check_steady

MAX_SETS = 200


def is_noticed(house, wish, states):
    """Whether some single hand knows, behind each row that leads into the set, that the wish is in it."""
    check_set(house, wish, states)
    return missed(house, wish, states) is None


def knowers(house, wish, row, states):
    """The set of the hands that know, each by itself, behind a row that the wish is in the set."""
    check_row_and_set(house, wish, row, states)
    return _knowing(house, Scheme(house, wish).behind(row), states)


def first_notice(house, wish, row, states):
    """The least number of first deeds behind which some hand knows that, and the set of the hands, None if none."""
    check_row_and_set(house, wish, row, states)
    scheme = Scheme(house, wish)
    pairs = scheme.start()
    found = _knowing(house, pairs, states)
    many = 0
    while not found and many < len(row):
        pairs = scheme.moved(pairs, row[many])
        many += 1
        found = _knowing(house, pairs, states)
    return (many, found) if found else None


def notice_paper(house, wish, states):
    """A row and two deeds that show that the set is not noticed, or that it is."""
    check_set(house, wish, states)
    found = missed(house, wish, states)
    return ("noticed",) if found is None else ("missed",) + found


def is_notice_paper(house, wish, states, value):
    """Whether the value is such a paper."""
    check_set(house, wish, states)
    if has_parts(value, 1):
        return value[0] == "noticed" and missed(house, wish, states) is None
    if not has_parts(value, 4):
        return False
    word, row, one, other = value
    return word == "missed" and _is_way_to_miss(house, wish, states, row, one, other)


def least_noticed(house, wish, states):
    """The ascending tuple of the least sets that contain some states, are lasting and noticed."""
    check_house(house)
    check_wish(wish)
    check_states(wish, states)
    check_steady(house, wish)
    # Here a set of states is told by the bits of an integer.
    closures = [sum([1 << end for end in wish.far(state)]) for state in range(len(wish))]
    start = 0
    for state in states:
        start = start | closures[state]
    found = _least_closed(start, closures, _forks(house, wish))
    return tuple(sorted([_members(bits, len(wish)) for bits in found]))


def missed(house, wish, states):
    """A row and two deeds apart, each of which alone leads not into the set, but both do, None if there are none."""
    for state, row in ways_by(wish, wish.deeds, 0).items():
        for one, other in house.apart:
            if _is_missed(wish, states, state, one, other):
                return (row, one, other)
    return None


def _knowing(house, pairs, states):
    """The hands that know, behind a row with this outlook, that the wish is in a lasting set."""
    # The wish can be where the hand's view is, and from a lasting set no deed leads elsewhere.
    return tuple([hand for hand, pair in zip(house.hands, pairs) if pair[1] in states])


def _is_missed(wish, states, state, one, other):
    """Whether a state, and where two deeds each lead from it, are not in the set, but where both lead is."""
    end, mate = wish.moved(state, one), wish.moved(state, other)
    return not any([place in states for place in (state, end, mate)]) and wish.moved(end, other) in states


def _is_way_to_miss(house, wish, states, row, one, other):
    """Whether the values are a row and two deeds apart by which the set is missed."""
    if not is_row(row, house.deeds) or one not in house.deeds or other not in house.deeds:
        return False
    return house.are_apart(one, other) and _is_missed(wish, states, wish.after(row), one, other)


def _forks(house, wish):
    """For each state and two deeds apart where both of them lead, and where each one does."""
    found = set()
    for state in range(len(wish)):
        for one, other in house.apart:
            end, mate = wish.moved(state, one), wish.moved(state, other)
            found.add((wish.moved(end, other), end, mate))
    return sorted(found)


def _least_closed(start, closures, forks):
    """The least sets with the start, the closures of their states, and a way of each fork that ends in them."""
    # Sets come by their sizes, so one that is closed, and contains none that is found, contains no other one at all.
    sizes = range(len(closures) + 1)
    waiting = [{} for _ in sizes]
    waiting[len(_members(start, len(closures)))][start] = True
    found = []
    for size in sizes:
        for bits in list(waiting[size]):
            if any([least & bits == least for least in found]):
                continue
            ways_on = _open_ways(bits, forks)
            if not ways_on:
                found.append(bits)
            for state in ways_on:
                wider = bits | closures[state]
                waiting[len(_members(wider, len(closures)))][wider] = True
        if len(found) > MAX_SETS:
            raise TooMany(MAX_SETS)
    return found


def _open_ways(bits, forks):
    """The ways of the first fork that ends in the set by none of its ways, () if there is none."""
    for both, one, other in forks:
        if bits >> both & 1 and not bits >> one & 1 and not bits >> other & 1:
            return (one, other)
    return ()


def _members(bits, many):
    """The states, of so many, that have a bit."""
    return tuple([state for state in range(many) if bits >> state & 1])
