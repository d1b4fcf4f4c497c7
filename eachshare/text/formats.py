"""The texts of houses, wishes, rows and values."""

from eachshare.base.checks import check_house
from eachshare.base.houses import House
from eachshare.base.names import is_integer, is_name, is_names
from eachshare.errors import InvalidHouse, InvalidOperation, InvalidRow, InvalidWish, ParseError, TooMany
from eachshare.share.checks import check_wish
from eachshare.wish.wishes import Wish

MAX_DIGITS = 60
MAX_DEEP = 8
CONSTANTS = {"yes": True, "no": False, "none": None}


def write_house(house):
    """The text of a house."""
    check_house(house)
    lines = [("hands",) + house.hands] + [("deed", deed) + house[deed] for deed in house.deeds]
    return "\n".join([" ".join(words) for words in lines])


def write_wish(wish):
    """The text of a wish."""
    check_wish(wish)
    lines = [["deeds"] + list(wish.deeds)]
    for state, ends in enumerate(wish.targets):
        lines.append(["state"] + [str(end) for end in ends] + (["kept"] if wish.keeps(state) else []))
    return "\n".join([" ".join(words) for words in lines])


def write_row(row):
    """The text of a tuple of names."""
    if not is_names(row):
        raise InvalidRow("a row is a tuple of names")
    return " ".join(row)


def write_value(value):
    """The text of a value."""
    return " ".join(_words_of(value, 0))


def read_house(text):
    """The house with just this text."""
    lines = _lines_of(text)
    _check_lines([_is_line_of_house(words, index) for index, words in enumerate(lines)])
    house = _house_of(lines)
    if house is None or write_house(house) != text:
        raise ParseError(len(lines))
    return house


def read_wish(text):
    """The wish with just this text."""
    lines = _lines_of(text)
    _check_lines([_is_line_of_wish(words, index) for index, words in enumerate(lines)])
    wish = _wish_of(lines)
    if wish is None or write_wish(wish) != text:
        raise ParseError(len(lines))
    return wish


def read_row(text):
    """The tuple of names with just this text."""
    lines = _lines_of(text)
    row = () if lines[0] == [""] else tuple(lines[0])
    if not is_names(row):
        raise ParseError(0)
    _check_one_line(lines)
    return row


def read_value(text):
    """The value with just this text."""
    lines = _lines_of(text)
    value, place = _value_at(lines[0], 0, 0)
    # What is left are words that stand too far, and keys that are equal or not in their order.
    if place != len(lines[0]) or _words_of(value, 0) != lines[0]:
        raise ParseError(0)
    _check_one_line(lines)
    return value


def is_number(word):
    """Whether a word is the text of an integer of at least 0."""
    if not 1 <= len(word) <= MAX_DIGITS or not all(["0" <= sign <= "9" for sign in word]):
        return False
    return word == "0" or word[0] != "0"


def _words_of(value, deep):
    """The words of the text of a value that stands in so many tuples and dicts."""
    if isinstance(value, (tuple, dict)):
        if deep == MAX_DEEP:
            raise InvalidOperation("at most eight tuples and dicts stand one in another")
        opening, closing = ("(", ")") if isinstance(value, tuple) else ("{", "}")
        return [opening] + [word for part in _parts_of(value) for word in _words_of(part, deep + 1)] + [closing]
    if is_name(value):
        return ["=" + value]
    if is_integer(value) and value >= 0:
        return [str(value)]
    return [_constant_of(value)]


def _parts_of(value):
    """The parts of a tuple, or the keys and values of a dict by turns."""
    if isinstance(value, tuple):
        return list(value)
    return [part for key in sorted(value, key=lambda key: repr(key)) for part in (key, value[key])]


def _constant_of(value):
    """The word for True, False or None."""
    if value is True:
        return "yes"
    if value is False:
        return "no"
    if value is None:
        return "none"
    raise InvalidOperation("the value has no text")


def _lines_of(text):
    """The words of all lines of a text."""
    if not isinstance(text, str):
        raise InvalidOperation("a text is a string")
    return [line.split(" ") for line in text.split("\n")]


def _check_lines(marks):
    """Raise ParseError for the first line that is not right, by a mark for each line."""
    for index, is_right in enumerate(marks):
        if not is_right:
            raise ParseError(index)


def _check_one_line(lines):
    if len(lines) > 1:
        raise ParseError(1)


def _is_line_of_house(words, index):
    """Whether a line can stand at this place in the text of a house."""
    names = tuple(words[1:])
    if index == 0:
        return words[0] == "hands" and is_names(names)
    return words[0] == "deed" and is_names(names) and len(names) > 1


def _house_of(lines):
    """The house that such lines tell, None if there is no such one."""
    try:
        return House(tuple(lines[0][1:]), {words[1]: tuple(words[2:]) for words in lines[1:]})
    except InvalidHouse:
        return None


def _is_line_of_wish(words, index):
    """Whether a line can stand at this place in the text of a wish."""
    if index == 0:
        return words[0] == "deeds" and is_names(tuple(words[1:]))
    return words[0] == "state" and all([is_number(word) for word in _targets_of(words)])


def _targets_of(words):
    """The words of a line of a state between the first one and the word for kept states."""
    return words[1:-1] if words[-1] == "kept" else words[1:]


def _wish_of(lines):
    """The wish that such lines tell, None if there is no such one."""
    targets = [tuple([int(word) for word in _targets_of(words)]) for words in lines[1:]]
    kept = [state for state, words in enumerate(lines[1:]) if words[-1] == "kept"]
    try:
        return Wish(tuple(lines[0][1:]), tuple(targets), tuple(kept))
    except (InvalidWish, TooMany):
        return None


def _value_at(words, place, deep):
    """The value that begins at a place in the words and stands in so many tuples and dicts, and the place behind it."""
    word = words[place]
    if word == "(":
        parts, behind = _parts_at(words, place + 1, ")", deep + 1)
        return tuple(parts), behind
    if word == "{":
        parts, behind = _parts_at(words, place + 1, "}", deep + 1)
        return _dict_of(parts), behind
    if word in CONSTANTS:
        return CONSTANTS[word], place + 1
    if is_number(word):
        return int(word), place + 1
    if word[:1] != "=" or not is_name(word[1:]):
        raise ParseError(0)
    return word[1:], place + 1


def _parts_at(words, place, closing, deep):
    """The values from a place on up to the closing word, and the place behind this."""
    if deep > MAX_DEEP:
        raise ParseError(0)
    parts = []
    while place < len(words) and words[place] != closing:
        part, place = _value_at(words, place, deep)
        parts.append(part)
    if place == len(words):
        raise ParseError(0)
    return parts, place + 1


def _dict_of(parts):
    """The dict with these keys and values by turns."""
    if len(parts) != len(parts) // 2 * 2 or any([_has_dict(key) for key in parts[::2]]):
        raise ParseError(0)
    return {key: value for key, value in zip(parts[::2], parts[1::2])}


def _has_dict(value):
    """Whether a value is a dict, or a tuple with dicts in it."""
    if isinstance(value, tuple):
        return any([_has_dict(part) for part in value])
    return isinstance(value, dict)
