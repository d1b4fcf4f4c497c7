"""Cuts of a row: how far all hands can be with their own deeds, and the states of the wish there."""

from eachshare.base.checks import check_house, check_row, has_parts, is_below
from eachshare.base.rows import own_rows
from eachshare.errors import InvalidOperation
from eachshare.know.checks import check_row_and_states
from eachshare.share.checks import check_wish
from eachshare.share.steady import check_steady
from eachshare.wish.machines import met

MAX_CUTS = 2000


class Course:
    """How the deeds of a row lead from cut to cut."""

    def __init__(self, house, row):
        places = {hand: place for place, hand in enumerate(house.hands)}
        self._rows = list(own_rows(house, row).values())
        self._doers = {deed: [places[hand] for hand in house[deed]] for deed in house.deeds}

    def moved(self, cut, deed):
        """The cut behind a deed, the same one if the deed is not the next one of each of its hands."""
        places = self._doers[deed]
        if any([self._rows[place][cut[place]:cut[place] + 1] != (deed,) for place in places]):
            return cut
        done = list(cut)
        for place in places:
            done[place] += 1
        return tuple(done)

    def steps(self, cut):
        """The ascending list of the pairs (deed, cut) by which one more deed leads from a cut to another one."""
        found = [(deed, self.moved(cut, deed)) for deed in self._doers]
        return [(deed, end) for deed, end in found if end != cut]

    def found(self):
        """The dict from all cuts, those with fewer deeds first, to how they are met."""
        return met(self, (0,) * len(self._rows), self._doers, MAX_CUTS)


def cuts(house, row):
    """The ascending tuple of all cuts."""
    _check_house_and_row(house, row)
    return tuple(sorted(Course(house, row).found()))


def row_at(house, row, cut):
    """The row of the deeds that are done at a cut."""
    _check_house_and_row(house, row)
    _check_cut(house, row, cut)
    _check_many(house, row)
    return _row_at(house, row, cut)


def state_at(house, wish, row, cut):
    """The state of the wish behind the deeds that are done at a cut."""
    check_house(house)
    check_wish(wish)
    check_row(row, house.deeds)
    _check_cut(house, row, cut)
    check_steady(house, wish)
    _check_many(house, row)
    return wish.after(_row_at(house, row, cut))


def next_cuts(house, row, cut):
    """The ascending tuple of the pairs (deed, cut) by which one more deed leads from a cut to another one."""
    _check_house_and_row(house, row)
    _check_cut(house, row, cut)
    _check_many(house, row)
    return tuple(Course(house, row).steps(cut))


def perhaps(house, wish, row):
    """The set of the states at all cuts."""
    check_house(house)
    check_wish(wish)
    check_row(row, house.deeds)
    check_steady(house, wish)
    states = _states(wish, Course(house, row).found())
    return tuple(sorted(set(list(states.values()))))


def surely(house, wish, row, states):
    """Whether each alike row has a beginning that leads to one of the states."""
    return avoiding(house, wish, row, states) is None


def avoiding(house, wish, row, states):
    """The first one in Python's order of the alike rows of which no beginning leads to one of the states, or None."""
    check_row_and_states(house, wish, row, states)
    course = Course(house, row)
    ways_on = _ways_on(course, _states(wish, course.found()), states)
    place = (0,) * len(house)
    if place not in ways_on:
        return None
    found = []
    while ways_on[place] is not None:
        deed, place = ways_on[place]
        found.append(deed)
    return tuple(found)


def count_alike(house, row):
    """The number of the rows that are alike, the row among them."""
    _check_house_and_row(house, row)
    course = Course(house, row)
    found = list(course.found())
    counts = {cut: 0 for cut in found}
    counts[found[0]] = 1
    # Each deed more leads to cuts that are met later, so what is counted at a cut is complete when it comes up.
    for cut in found:
        for deed, end in course.steps(cut):
            counts[end] = counts[end] + counts[cut]
    return counts[found[-1]]


def _check_house_and_row(house, row):
    check_house(house)
    check_row(row, house.deeds)


def _check_cut(house, row, value):
    """Raise InvalidOperation if the value is no cut of the row."""
    if not _has_numbers(house, row, value) or any([len(set(marks)) > 1 for marks in _marks(house, row, value)]):
        raise InvalidOperation("a cut tells how many of its own deeds each hand has done, linked hands alike")


def _check_many(house, row):
    """Raise TooMany if the row has too many cuts."""
    Course(house, row).found()


def _has_numbers(house, row, value):
    """Whether the value is a tuple that has for each hand a number of its own deeds in the row."""
    if not has_parts(value, len(house)):
        return False
    sizes = [len(own) for own in own_rows(house, row).values()]
    return all([is_below(many, size + 1) for many, size in zip(value, sizes)])


def _marks(house, row, cut):
    """For each deed of the row, for each of its hands, whether the hand has done it at the cut."""
    left = dict(zip(house.hands, cut))
    found = []
    for deed in row:
        found.append([left[hand] > 0 for hand in house[deed]])
        for hand in house[deed]:
            left[hand] -= 1
    return found


def _row_at(house, row, cut):
    return tuple([deed for deed, marks in zip(row, _marks(house, row, cut)) if marks[0]])


def _states(wish, found):
    """The dict from all cuts, as they were met, to the states of the wish there."""
    states = {}
    for cut, came in found.items():
        states[cut] = 0 if came is None else wish.moved(states[came[0]], came[1])
    return states


def _ways_on(course, found, states):
    """The dict from all cuts from which a way to the last one avoids the states to its first deed and the cut there.

    The cuts are given with their states, as they were met. The last one has None.
    """
    ways_on = {}
    for cut in list(found)[::-1]:
        steps = course.steps(cut)
        open_steps = [step for step in steps if step[1] in ways_on]
        if found[cut] not in states and (open_steps or not steps):
            ways_on[cut] = open_steps[0] if open_steps else None
    return ways_on
