"""Checks of wishes and shares that several modules make."""

from eachshare.errors import InvalidOperation, InvalidShare, InvalidWish
from eachshare.share.shares import Share
from eachshare.wish.wishes import Wish


def check_wish(value):
    """Raise InvalidWish if the value is no wish."""
    if not isinstance(value, Wish):
        raise InvalidWish("the value is no wish")


def check_share(value):
    """Raise InvalidShare if the value is no share."""
    if not isinstance(value, Share):
        raise InvalidShare("the value is no share")


def check_belongs(house, wish):
    """Raise InvalidOperation unless the wish belongs to the house."""
    if house.deeds != wish.deeds:
        raise InvalidOperation("a wish belongs to a house with the same deeds only")
