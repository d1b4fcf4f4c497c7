"""Checks of sets of hands and of states, and of what stands beside them, that several modules make."""

from eachshare.base.checks import check_house, check_row, is_set_below
from eachshare.base.names import is_set
from eachshare.errors import InvalidOperation
from eachshare.share.checks import check_wish
from eachshare.share.steady import check_steady


def check_hands(house, value):
    """Raise InvalidOperation if the value is no set of hands of the house."""
    if not is_set(value) or not all([hand in house for hand in value]):
        raise InvalidOperation("a set of hands is an ascending tuple of hands of the house")


def check_states(wish, value):
    """Raise InvalidOperation if the value is no set of states of the wish."""
    if not is_set_below(value, len(wish)):
        raise InvalidOperation("a set of states is an ascending tuple of states of the wish")


def check_lasting(wish, value):
    """Raise InvalidOperation if the value is no lasting set of states of the wish."""
    check_states(wish, value)
    if not stays(wish, value):
        raise InvalidOperation("a deed leads out of the states")


def check_set(house, wish, states):
    """Raise the error of a house, a steady wish of it and a lasting set of states, if one is wrong."""
    check_house(house)
    check_wish(wish)
    check_lasting(wish, states)
    check_steady(house, wish)


def check_row_and_states(house, wish, row, states):
    """Raise the error of a house, a steady wish and a row of it, and any set of states, if one is wrong."""
    check_house(house)
    check_wish(wish)
    check_row(row, house.deeds)
    check_states(wish, states)
    check_steady(house, wish)


def check_row_and_set(house, wish, row, states):
    """Raise the error of a house, a steady wish and a row of it, and a lasting set of states, if one is wrong."""
    check_house(house)
    check_wish(wish)
    check_row(row, house.deeds)
    check_lasting(wish, states)
    check_steady(house, wish)


def stays(wish, states):
    """Whether no deed leads out of a set of states."""
    return all([wish.moved(state, deed) in states for state in states for deed in wish.deeds])
