"""What the document says of rows, wishes and shares, worked out again in slower and plainer ways than the program's."""

from itertools import combinations, product


def all_rows(deeds, size):
    """All rows with up to so many deeds: shorter ones first, then in Python's order."""
    return [row for many in range(size + 1) for row in product(deeds, repeat=many)]


def are_apart(house, one, other):
    return not set(house[one]) & set(house[other])


def exchanged(row, place):
    return row[:place] + (row[place + 1], row[place]) + row[place + 2:]


def neighbours(house, row):
    """The rows that come of this one by one exchange, each with its place."""
    for place in range(len(row) - 1):
        if are_apart(house, row[place], row[place + 1]):
            yield place, exchanged(row, place)


def alike(house, row):
    """All rows that come of this one by exchanges one by one, ascending."""
    met, waiting = {row}, [row]
    while waiting:
        for _, other in neighbours(house, waiting.pop()):
            if other not in met:
                met.add(other)
                waiting.append(other)
    return sorted(met)


def own_row(house, row, hand):
    return tuple(deed for deed in row if hand in house[deed])


def own_rows(house, row):
    return {hand: own_row(house, row, hand) for hand in house.hands}


def joint_past(house, row, hands):
    """By what each hand knows behind each deed, from the beginning on: the places of deeds."""
    known = {one: set() for one in house.hands}
    for place, deed in enumerate(row):
        together = set().union({place}, *[known[one] for one in house[deed]])
        for one in house[deed]:
            known[one] = together
    return tuple(row[place] for place in sorted(set().union(*[known[hand] for hand in hands])))


def past(house, row, hand):
    return joint_past(house, row, (hand,))


def free_deeds(house, row):
    """The deeds of the row with which some alike row begins, ascending."""
    found, ahead = set(), set()
    busy = {hand for deed in house.deeds for hand in house[deed]}
    for deed in row:
        if not ahead & set(house[deed]):
            found.add(deed)
        ahead |= set(house[deed])
        if ahead == busy:
            break
    return sorted(found)


def without(row, deed):
    """The row without the first one of these deeds."""
    place = row.index(deed)
    return row[:place] + row[place + 1:]


def first_alike(house, row):
    found = ()
    while row:
        deed = free_deeds(house, row)[0]
        found, row = found + (deed,), without(row, deed)
    return found


def layers(house, row):
    found = []
    while row:
        found.append(tuple(free_deeds(house, row)))
        for deed in found[-1]:
            row = without(row, deed)
    return tuple(found)


def end(deeds, targets, row, state=0):
    """The state of a machine behind a row."""
    for deed in row:
        state = targets[state][deeds.index(deed)]
    return state


def kept_rows(machine, size):
    """The rows with up to so many deeds that a machine (deeds, targets, kept) keeps."""
    deeds, targets, kept = machine
    return [row for row in all_rows(deeds, size) if end(deeds, targets, row) in kept]


def sorts_of_states(machine):
    """How many sorts of states come up, told apart by short rows: a machine with n states needs no longer ones."""
    deeds, targets, kept = machine
    rows = all_rows(deeds, len(targets) - 1)
    states = {end(deeds, targets, row) for row in rows}
    return len({tuple(end(deeds, targets, row, state) in kept for row in rows) for state in states})


def states_as_met(wish, size):
    """The states of a wish, as rows lead to them, shorter rows first."""
    met = []
    for row in all_rows(wish.deeds, size):
        state = end(wish.deeds, wish.targets, row)
        if state not in met:
            met.append(state)
    return met


def sorts_of_rests(deeds, rows):
    """How many states the least machine with just these rows has: one for each set of rests behind some row."""
    beginnings = {row[:many] for row in rows for many in range(len(row) + 1)} | {()}
    beginnings |= {row + (deed,) for row in list(beginnings) for deed in deeds}
    return len({frozenset(row[len(head):] for row in rows if row[:len(head)] == head) for head in beginnings})


def breaches(house, wish, size):
    """All breaches with up to so many deeds, the shorter ones first."""
    has = {row: row in wish for row in all_rows(wish.deeds, size)}
    for row in has:
        for place, other in neighbours(house, row):
            if has[row] != has[other]:
                yield row, place


def hearer(house, hand):
    """The hand to which a hand tells."""
    if hand == house.hands[0]:
        return None
    return house.hands[0] if house.above(hand) is None else house.above(hand)


def local_states(house, sizes, tables, row):
    """The dict from all hands to their states behind a row."""
    states = {hand: 0 for hand in sizes}
    for deed in row:
        if len(house[deed]) == 1:
            (hand,) = house[deed]
            states[hand] = tables[deed][states[hand]]
        else:
            one, other = house[deed]
            states[one], states[other] = tables[deed][states[one]][states[other]]
    return states


def heard(house, folds, states, hand):
    """The state of a hand when all hands that tell to it have told, each with what it has heard itself."""
    state = states[hand]
    for low in sorted(low for low in house.hands if hearer(house, low) == hand):
        state = folds[low][heard(house, folds, states, low)][state]
    return state


def random_machine(rng, deeds, most):
    """A machine with up to so many states, of which some may not come up and some may be told twice."""
    many = rng.randint(1, most)
    targets = tuple(tuple(rng.randrange(many) for _ in deeds) for _ in range(many))
    return deeds, targets, tuple(state for state in range(many) if rng.random() < 0.5)


def random_row(rng, deeds, size):
    return tuple(rng.choice(deeds) for _ in range(size))


def random_parts(rng, house, most):
    """The parts of a share with up to so many states of each hand, ahead of which only the house stands."""
    sizes = {hand: rng.randint(1, most) for hand in house.hands}
    tables, folds = {}, {}
    for deed in house.deeds:
        many = [sizes[hand] for hand in house[deed]]
        if len(many) == 1:
            tables[deed] = tuple(rng.randrange(many[0]) for _ in range(many[0]))
        else:
            tables[deed] = tuple(
                tuple((rng.randrange(many[0]), rng.randrange(many[1])) for _ in range(many[1])) for _ in range(many[0])
            )
    for hand in house.hands[1:]:
        many = sizes[hearer(house, hand)]
        folds[hand] = tuple(tuple(rng.randrange(many) for _ in range(many)) for _ in range(sizes[hand]))
    return sizes, tables, folds, tuple(state for state in range(sizes[house.hands[0]]) if rng.random() < 0.5)


def machine_of_parts(house, parts, most):
    """The deeds, targets and kept states of a machine with the rows of a share, None if it has more states than that."""
    sizes, tables, folds, kept = parts
    standings, rows, targets = [tuple(local_states(house, sizes, tables, ()).values())], [()], []
    for row in rows:
        ends = []
        for deed in house.deeds:
            standing = tuple(local_states(house, sizes, tables, row + (deed,)).values())
            if standing not in standings:
                standings.append(standing)
                rows.append(row + (deed,))
            ends.append(standings.index(standing))
        targets.append(tuple(ends))
        if len(standings) > most:
            return None
    first = house.hands[0]
    told = [heard(house, folds, dict(zip(house.hands, standing)), first) for standing in standings]
    return house.deeds, tuple(targets), tuple(number for number, state in enumerate(told) if state in kept)


def reached(wish, deeds, state):
    """All states to which rows of these deeds lead from a state, ascending."""
    met = {state}
    while True:
        more = {end(wish.deeds, wish.targets, (deed,), one) for one in met for deed in deeds} - met
        if not more:
            return tuple(sorted(met))
        met |= more


def side_deeds(house, hand):
    return [deed for deed in house.deeds if set(house[deed]) <= set(house.side(hand))]


def rest_deeds(house, hand):
    return [deed for deed in house.deeds if not set(house[deed]) & set(house.side(hand))]


def view_of(house, wish, row, hand):
    """The state of the wish behind the hand's past."""
    return end(wish.deeds, wish.targets, past(house, row, hand))


def outlook(house, wish, row):
    """By pasts: of the whole row, and of the row up to the last deed that a hand did with the one above it."""
    pairs = []
    for hand in house.hands:
        upper = house.above(hand)
        common = [place for place, deed in enumerate(row) if upper and {hand, upper} <= set(house[deed])]
        known = view_of(house, wish, row[:common[-1] + 1], hand) if common else 0
        pairs.append((known, view_of(house, wish, row, hand)))
    return tuple(pairs)


def first_parting(deeds, size, one, other):
    """The first one of the shortest rows with up to so many deeds that exactly one of both has, or None."""
    return next((row for row in all_rows(deeds, size) if (row in one) != (row in other)), None)


def does(house, parts, wish):
    """Whether the share with these parts does the wish: by rows to all that comes up together."""
    sizes, tables, folds, kept = parts
    met, waiting = set(), [()]
    while waiting:
        row = waiting.pop()
        states = local_states(house, sizes, tables, row)
        place = (end(wish.deeds, wish.targets, row), tuple(states.values()))
        if place not in met:
            if (heard(house, folds, states, house.hands[0]) in kept) != (place[0] in wish.kept):
                return False
            met.add(place)
            waiting += [row + (deed,) for deed in house.deeds]
    return True


def subsets(values):
    """All sets of some values, as ascending tuples."""
    return [some for many in range(len(values) + 1) for some in combinations(values, many)]


def joint_view(house, wish, row, hands):
    return end(wish.deeds, wish.targets, joint_past(house, row, hands))


def may_be(house, wish, row, hands):
    """The states to which deeds without the hands lead from their view."""
    free = [deed for deed in house.deeds if not set(house[deed]) & set(hands)]
    return reached(wish, free, joint_view(house, wish, row, hands))


def knowers(house, wish, row, states):
    return tuple(hand for hand in house.hands if set(may_be(house, wish, row, (hand,))) <= set(states))


def lasts(wish, states):
    return all(reached(wish, wish.deeds, state) == tuple(sorted(set(reached(wish, wish.deeds, state)) & set(states)))
               for state in states)


def lasting_sets(wish):
    return [states for states in subsets(tuple(range(len(wish)))) if lasts(wish, states)]


def rows_to_outlooks(house, wish):
    """A row to each outlook, by pasts; with one deed more, they are rows of all kinds that the scheme tells apart."""
    met, waiting = {}, [()]
    while waiting:
        row = waiting.pop(0)
        found = outlook(house, wish, row)
        if found not in met:
            met[found] = row
            waiting += [row + (deed,) for deed in house.deeds]
    return met


def counts(house, row):
    """How many of its own deeds each hand has in the row."""
    return tuple(len(own_row(house, row, hand)) for hand in house.hands)


def cuts(house, row):
    """By all beginnings of all alike rows: the dict from all cuts to one of the beginnings."""
    return {counts(house, other[:many]): other[:many] for other in alike(house, row) for many in range(len(row) + 1)}


def avoids(wish, row, states):
    """Whether no beginning of the row leads to one of the states."""
    return not any(end(wish.deeds, wish.targets, row[:many]) in states for many in range(len(row) + 1))


def views_along(house, wish, row, hand, ahead=0):
    """The views of a hand behind each of its deeds in a row, those of the first deeds aside, so many as told."""
    places = [place for place, deed in enumerate(row) if hand in house[deed] and place >= ahead]
    return [view_of(house, wish, row[:place + 1], hand) for place in places]
