"""Integers and names, and tuples of names."""

MAX_LETTERS = 8


def is_integer(value):
    """Whether the value is an integer of at most sixty digits."""
    # Python counts True and False among the integers, the program does not.
    return isinstance(value, int) and not isinstance(value, bool) and abs(value) < 10 ** 60


def is_name(value):
    """Whether the value is a string of one to eight letters a to z."""
    if not isinstance(value, str) or not 1 <= len(value) <= MAX_LETTERS:
        return False
    return all(["a" <= sign <= "z" for sign in value])


def is_set(value):
    """Whether the value is an ascending tuple of names."""
    return is_names(value) and all([one < other for one, other in zip(value, value[1:])])


def is_names(value):
    """Whether the value is a tuple of names, in any order, perhaps repeated."""
    return isinstance(value, tuple) and all([is_name(name) for name in value])
