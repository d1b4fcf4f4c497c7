"""Checks of arguments that several modules make."""

from eachshare.base.houses import House
from eachshare.base.names import is_integer
from eachshare.errors import InvalidHouse, InvalidNumber, InvalidRow, UnknownName


def check_house(value):
    """Raise InvalidHouse if the value is no house."""
    if not isinstance(value, House):
        raise InvalidHouse("the value is no house")


def check_known(value, names):
    """Raise UnknownName if the value is none of the names."""
    # The names are a tuple, as a value that no dict can be asked for must be refused, too.
    if value not in names:
        raise UnknownName(value)


def is_row(value, deeds):
    """Whether the value is a row of these deeds."""
    return isinstance(value, tuple) and all([deed in deeds for deed in value])


def check_row(value, deeds):
    """Raise InvalidRow if the value is no row of these deeds."""
    if not is_row(value, deeds):
        raise InvalidRow("a row is a tuple of deeds that are there")


def is_below(value, limit):
    """Whether the value is an integer from 0 on that is less than the limit."""
    return is_integer(value) and 0 <= value < limit


def check_below(value, limit):
    """Raise InvalidNumber unless the value is an integer from 0 on that is less than the limit."""
    if not is_below(value, limit):
        raise InvalidNumber(value)


def are_below(value, many, limit):
    """Whether the value is a tuple of so many such integers."""
    return has_parts(value, many) and all([is_below(number, limit) for number in value])


def is_set_below(value, limit):
    """Whether the value is an ascending tuple of such integers, as sets of states are."""
    if not isinstance(value, tuple) or not are_below(value, len(value), limit):
        return False
    return all([one < other for one, other in zip(value, value[1:])])


def has_parts(value, many):
    """Whether the value is a tuple with so many parts."""
    return isinstance(value, tuple) and len(value) == many
