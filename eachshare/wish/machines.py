"""Machines: for each state the states to which the deeds lead, the deeds told by their places, and the kept states.

Operators of wishes call most of these functions, so none of them changes what it is passed. What the deeds of all other
machines lead through is told by objects with a method moved(place, deed), such as wishes and shares.
"""

from eachshare.errors import TooMany


def ways(targets, start=0):
    """The dict from all states that come up, as they are met, to the first one of the shortest rows that lead there."""
    found = {start: ()}
    waiting = [start]
    done = 0
    while done < len(waiting):
        state = waiting[done]
        for place, target in enumerate(targets[state]):
            if target not in found:
                found[target] = found[state] + (place,)
                waiting.append(target)
        done += 1
    return found


def first_way(targets, goals):
    """The first one of the shortest rows that lead from state 0 to one of the goals, or None."""
    wanted = set(goals)
    for state, row in ways(targets).items():
        if state in wanted:
            return row
    return None


def met(mover, start, deeds, limit):
    """The dict from all places to which deeds lead from the start, as they are met, to the place ahead and the deed.

    The start has None. There can be many places far from it, so a dict to whole rows might be too great.
    """
    found = {start: None}
    waiting = [start]
    done = 0
    while done < len(waiting):
        for deed in deeds:
            place = mover.moved(waiting[done], deed)
            if place not in found:
                found[place] = (waiting[done], deed)
                waiting.append(place)
        if len(found) > limit:
            raise TooMany(limit)
        done += 1
    return found


def way_to(found, place):
    """The row by which a place was met: for ascending deeds, the first one of the shortest rows that lead there."""
    row = []
    while found[place] is not None:
        place, deed = found[place]
        row.append(deed)
    return tuple(row[::-1])


def least_machine(targets, kept, limit):
    """The targets and the kept states of the least machine with the same rows, its states numbered as they are met."""
    states = _as_met(targets)
    wanted = set(kept)
    classes = {state: int(state in wanted) for state in states}
    many = 0
    finer = _split(targets, states, classes)
    # A step that splits no class is the last one; classes are never fewer than before, so the limit ends this early.
    while _number(finer) > many:
        many = _number(finer)
        if many > limit:
            raise TooMany(limit)
        classes = finer
        finer = _split(targets, states, classes)
    firsts = {}
    for state in states:
        firsts.setdefault(classes[state], state)
    rows = [tuple([classes[target] for target in targets[first]]) for first in firsts.values()]
    return tuple(rows), tuple([number for number, first in firsts.items() if first in wanted])


def _as_met(targets):
    """The states that come up, as they are met."""
    found = [0]
    seen = set(found)
    done = 0
    while done < len(found):
        state = found[done]
        for target in targets[state]:
            if target not in seen:
                seen.add(target)
                found.append(target)
        done += 1
    return found


def _split(targets, states, classes):
    """The classes of the states that differ by their class or by those of their targets, numbered as they are met."""
    numbers = {}
    finer = {}
    for state in states:
        sign = (classes[state], tuple([classes[target] for target in targets[state]]))
        numbers.setdefault(sign, len(numbers))
        finer[state] = numbers[sign]
    return finer


def _number(classes):
    """How many classes there are."""
    return max(classes.values()) + 1


def paired(one, other):
    """The machine of two machines side by side, in which (state, mate) has the number state * len(other) + mate."""
    width = len(other)
    return [_paired_ends(ends, mates, width) for ends in one for mates in other]


def _paired_ends(ends, mates, width):
    return tuple([end * width + mate for end, mate in zip(ends, mates)])


def turned_machine(targets, kept, limit):
    """The least machine of the rows of a least machine from their ends to their beginnings."""
    # It has sets of states, those from which the turned row leads to a kept one. As each state of the given machine
    # comes up, no two of these sets have the same rows, so none is counted against the limit in vain.
    sets = [kept]
    numbers = {kept: 0}
    found = []
    while len(found) < len(sets):
        sources = _sources(targets, sets[len(found)])
        for source in sources:
            if source not in numbers:
                numbers[source] = len(sets)
                sets.append(source)
        if len(sets) > limit:
            raise TooMany(limit)
        found.append(tuple([numbers[source] for source in sources]))
    return tuple(found), tuple([number for number, states in enumerate(sets) if 0 in states])


def _sources(targets, states):
    """For each deed the set of the states from which it leads to one of these states."""
    wanted = set(states)
    places = range(len(targets[0]))
    return [tuple([state for state, ends in enumerate(targets) if ends[place] in wanted]) for place in places]


def branches(rows, many):
    """The machine with just these rows of so many deeds; state 1 is the one from which none of them comes."""
    targets = [[1] * many, [1] * many]
    kept = []
    for row in rows:
        state = 0
        for place in row:
            if targets[state][place] == 1:
                targets[state][place] = len(targets)
                targets.append([1] * many)
            state = targets[state][place]
        kept.append(state)
    return targets, kept


def tallies(targets, kept, size):
    """For each number of deeds up to the size, for each state, how many rows of so many deeds lead to a kept state."""
    found = [[int(state in kept) for state in range(len(targets))]]
    for _ in range(size):
        last = found[-1]
        found.append([sum([last[target] for target in ends]) for ends in targets])
    return found


def listed(targets, counts):
    """The rows from state 0, ascending, that are counted last by these tallies."""
    rows = [((), 0)] if counts[-1][0] else []
    for count in counts[:-1][::-1]:
        rows = [(row + (place,), target) for row, state in rows
                for place, target in enumerate(targets[state]) if count[target]]
    return [row for row, state in rows]
