"""What some hands know of a steady wish behind a row."""

from eachshare.base.checks import check_below, check_house, check_row
from eachshare.base.rows import joint_past
from eachshare.know.checks import check_hands, check_states, stays
from eachshare.share.checks import check_wish
from eachshare.share.joins import deeds_without, ways_by
from eachshare.share.steady import check_steady


def view(house, wish, row, hands):
    """The state of the wish behind the joint past of the hands."""
    _check_row_and_hands(house, wish, row, hands)
    check_steady(house, wish)
    return view_behind(house, wish, row, hands)


def may_be(house, wish, row, hands):
    """The set of the states in which the wish may be, as far as the hands know."""
    _check_row_and_hands(house, wish, row, hands)
    check_steady(house, wish)
    return tuple(sorted(_ways_on(house, wish, row, hands)))


def does_know(house, wish, row, hands, states):
    """Whether the hands know that the wish is in a set of states."""
    _check_row_and_hands(house, wish, row, hands)
    check_states(wish, states)
    check_steady(house, wish)
    return all([state in states for state in _ways_on(house, wish, row, hands)])


def doubt(house, wish, row, hands, state):
    """The first one of the shortest rows without the hands that lead from their view to a state, or None."""
    _check_row_and_hands(house, wish, row, hands)
    check_below(state, len(wish))
    check_steady(house, wish)
    return _ways_on(house, wish, row, hands).get(state)


def is_lasting(wish, states):
    """Whether no deed leads out of a set of states."""
    check_wish(wish)
    check_states(wish, states)
    return stays(wish, states)


def lasting_from(wish, states):
    """The least lasting set that contains some states."""
    check_wish(wish)
    check_states(wish, states)
    found = [end for state in states for end in wish.far(state)]
    return tuple(sorted(set(found)))


def hopeless(wish):
    """The set of the states from which no row leads to a kept state."""
    check_wish(wish)
    return tuple([state for state in range(len(wish)) if not any([wish.keeps(end) for end in wish.far(state)])])


def won(wish):
    """The set of the states from which each row leads to a kept state."""
    check_wish(wish)
    return tuple([state for state in range(len(wish)) if all([wish.keeps(end) for end in wish.far(state)])])


def view_behind(house, wish, row, hands):
    """The view of some hands behind a row, all of which are right."""
    return wish.after(joint_past(house, row, hands))


def _check_row_and_hands(house, wish, row, hands):
    check_house(house)
    check_wish(wish)
    check_row(row, house.deeds)
    check_hands(house, hands)


def _ways_on(house, wish, row, hands):
    """The dict from all states in which the wish may be to the first one of the shortest rows from the view there."""
    return ways_by(wish, deeds_without(house, hands), view_behind(house, wish, row, hands))
