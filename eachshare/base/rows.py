"""Rows of deeds: what each hand has of them, and which rows are alike."""

from eachshare.base.checks import check_house, check_known, check_row, is_below, is_row
from eachshare.errors import InvalidNumber, InvalidOperation, Unmatched


def own_row(house, row, hand):
    """The deeds of the row that the hand does, in order."""
    _check_house_and_row(house, row)
    return _only(row, house.deeds_of(hand))


def own_rows(house, row):
    """The dict from all hands to their own rows."""
    _check_house_and_row(house, row)
    return _own_rows(house, row)


def past(house, row, hand):
    """The deeds of the row of which the hand can know, in order."""
    _check_house_and_row(house, row)
    check_known(hand, house.hands)
    return joint_past(house, row, (hand,))


def joint_past(house, row, hands):
    """The deeds of the row of which at least one of the hands can know, in order, by arguments that are right."""
    doers = _doers(house)
    # From the end on: a deed is in the past if one of its hands does a deed of the past later, or is one of the hands.
    knowing = set(hands)
    found = []
    for deed in row[::-1]:
        if any([doer in knowing for doer in doers[deed]]):
            found.append(deed)
            for doer in doers[deed]:
                knowing.add(doer)
    return tuple(found[::-1])


def are_alike(house, one, other):
    """Whether one row comes of the other by exchanges of neighbouring deeds that are apart."""
    _check_house_and_row(house, one)
    check_row(other, house.deeds)
    return _own_rows(house, one) == _own_rows(house, other)


def first_alike(house, row):
    """The first one in Python's order of the rows that are alike."""
    _check_house_and_row(house, row)
    return _merged(house, _own_rows(house, row))


def alike_rows(house, row):
    """All rows that are alike, ascending."""
    _check_house_and_row(house, row)
    apart = {one: [other for other in house.deeds if house.are_apart(one, other)] for one in house.deeds}
    found = _merged(house, _own_rows(house, row))
    while found is not None:
        yield found
        found = _next_alike(house, apart, found)


def layers(house, row):
    """The sets of the deeds that can come first in what the sets ahead of them leave of the row."""
    _check_house_and_row(house, row)
    doers = _doers(house)
    depths = {hand: 0 for hand in house.hands}
    found = []
    for deed in row:
        depth = max([depths[hand] for hand in doers[deed]])
        if depth == len(found):
            found.append([])
        found[depth].append(deed)
        for hand in doers[deed]:
            depths[hand] = depth + 1
    return tuple([tuple(sorted(layer)) for layer in found])


def exchanged(house, row, place):
    """The row with the deeds at the place and the next one exchanged."""
    _check_house_and_row(house, row)
    if not is_exchange(house, row, place):
        raise InvalidNumber(place)
    return row[:place] + (row[place + 1], row[place]) + row[place + 2:]


def is_exchange(house, row, place):
    """Whether there are deeds of the row at the place and the next one, and they are apart."""
    return is_below(place, len(row) - 1) and house.are_apart(row[place], row[place + 1])


def whole(house, rows):
    """The first row in Python's order with these own rows of all hands."""
    check_house(house)
    if not _are_own_rows(house, rows):
        raise InvalidOperation("own rows are told by a dict from just the hands to rows of deeds that they do")
    doers = _doers(house)
    for pair in house.links:
        common = [deed for deed in doers if doers[deed] == pair]
        if _only(rows[pair[0]], common) != _only(rows[pair[1]], common):
            raise Unmatched(pair)
    return _merged(house, rows)


def _check_house_and_row(house, row):
    check_house(house)
    check_row(row, house.deeds)


def _doers(house):
    """The dict from all deeds, ascending, to their hands."""
    return {deed: house[deed] for deed in house.deeds}


def _only(row, deeds):
    """What the row has of these deeds, in order."""
    return tuple([deed for deed in row if deed in deeds])


def _own_rows(house, row):
    return {hand: _only(row, house.deeds_of(hand)) for hand in house.hands}


def _are_own_rows(house, rows):
    """Whether the value is a dict from just the hands to rows of deeds that they do."""
    if not isinstance(rows, dict) or len(rows) != len(house) or not all([hand in rows for hand in house.hands]):
        return False
    return all([is_row(rows[hand], house.deeds_of(hand)) for hand in house.hands])


def _merged(house, rows):
    """The first row in Python's order with these own rows, in which linked hands agree."""
    doers = _doers(house)
    done = {hand: 0 for hand in house.hands}
    found = []
    deed = _first_next(doers, rows, done)
    while deed is not None:
        found.append(deed)
        for hand in doers[deed]:
            done[hand] += 1
        deed = _first_next(doers, rows, done)
    return tuple(found)


def _first_next(doers, rows, done):
    """The first deed that comes next for each of its hands, by the numbers of own deeds done; None at the end."""
    for deed in doers:
        if all([rows[hand][done[hand]:done[hand] + 1] == (deed,) for hand in doers[deed]]):
            return deed
    return None


def _next_alike(house, apart, row):
    """The next one in Python's order of the rows that are alike, by the deeds apart from each deed; None at the end."""
    # From the end on: the ready deeds are those that can come first in the part of the row that begins at the place.
    ready = []
    for place in range(len(row) - 1, -1, -1):
        ready = [deed for deed in ready if deed in apart[row[place]]]
        later = [deed for deed in ready if deed > row[place]]
        if later:
            deed = min(later)
            rest = list(row[place:])
            rest.remove(deed)
            return row[:place] + (deed,) + _merged(house, _own_rows(house, rest))
        ready.append(row[place])
    return None
