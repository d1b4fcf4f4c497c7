"""The shell: a desk that is asked by lines of words."""

from eachshare.base.names import is_name
from eachshare.desk.desk import Desk
from eachshare.errors import (
    InvalidHouse, InvalidNumber, InvalidOperation, InvalidRow, NothingToUndo, Refused, TooMany, UnknownName, Unsteady,
)
from eachshare.know.endless import does_meet
from eachshare.know.noticing import notice_paper
from eachshare.know.refusing import refusal_paper
from eachshare.put.crews import greatest_gifts, least_crews
from eachshare.text.formats import is_number, read_house, read_wish, write_house, write_value


def _do(desk, deeds):
    desk.do_all(deeds)
    return "done"


def _guard(desk, name, states):
    desk.keep(name, desk[name], guarded=states)
    return "done"


def _forget(desk, name):
    desk.forget(name)
    return "done"


def _merge(desk, one, other):
    desk.merge(one, other)
    return "done"


def _give(desk, deed, hand):
    desk.give(deed, hand)
    return "done"


def _undo(desk, numbers):
    desk.undo(many=_many_of(numbers))
    return "done"


def _redo(desk, numbers):
    desk.redo(many=_many_of(numbers))
    return "done"


def _row(desk):
    return _line_of(desk.row)


def _own(desk, hand):
    return _line_of(desk.own_row(hand))


def _names(desk):
    return _line_of(desk.names)


def _can(desk, name):
    return _line_of(desk.can_do(name))


def _house(desk):
    return write_house(desk.house)


def _has(desk, name):
    return "yes" if desk.has(name) else "no"


def _view(desk, name, hands):
    return str(desk.view(name, hands))


def _may(desk, name, hands):
    return _line_of([str(state) for state in desk.may_be(name, hands)])


def _noticed(desk, name, states):
    return write_value(notice_paper(desk.house, desk[name], states))


def _kept(desk, name, states):
    return write_value(refusal_paper(desk.house, desk[name], states))


def _goal(desk, name, hand, states):
    return "meets" if does_meet(desk.house, desk[name], hand, states) else "misses"


def _crews(desk, name, states):
    crews = least_crews(desk.house, desk[name], desk.row, states)
    return _lines_of([" ".join(crew) or "nobody" for crew in crews])


def _gifts(desk, name):
    families = greatest_gifts(desk.house, desk[name])
    return _lines_of([", ".join([" ".join(gift) for gift in family]) or "nothing" for family in families])


# For each command the number of names that it has, what other words stand at its end, and what does it.
COMMANDS = {
    "do": (0, "deeds", _do),
    "guard": (1, "numbers", _guard),
    "forget": (1, "", _forget),
    "merge": (2, "", _merge),
    "give": (2, "", _give),
    "undo": (0, "number", _undo),
    "redo": (0, "number", _redo),
    "row": (0, "", _row),
    "own": (1, "", _own),
    "names": (0, "", _names),
    "can": (1, "", _can),
    "house": (0, "", _house),
    "has": (1, "", _has),
    "view": (1, "names", _view),
    "may": (1, "names", _may),
    "noticed": (1, "numbers", _noticed),
    "kept": (1, "numbers", _kept),
    "goal": (2, "numbers", _goal),
    "crews": (1, "numbers", _crews),
    "gifts": (1, "", _gifts),
}


class Shell:
    """A desk that does the commands of lines and answers them by texts."""

    def __init__(self, house_text, wish_texts):
        if not isinstance(wish_texts, dict) or not all([is_name(name) for name in wish_texts]):
            raise InvalidOperation("the texts of wishes stand in a dict from names")
        if not all([isinstance(text, str) for text in wish_texts.values()]):
            raise InvalidOperation("the text of a wish is a string")
        self._desk = Desk(read_house(house_text))
        for name in sorted(wish_texts):
            self._desk.keep(name, read_wish(wish_texts[name]))

    def __call__(self, line):
        return self.answer(line)

    def desk(self):
        """A twin of the desk."""
        return self._desk.twin()

    def answer(self, line):
        """Do the command of a line, and tell what it returns or the error that it raises."""
        words = line.split(" ") if isinstance(line, str) else [""]
        if words[0] not in COMMANDS:
            return "what"
        many, ending, action = COMMANDS[words[0]]
        given = _given(words, many, ending)
        if given is None:
            return "what"
        try:
            return action(self._desk, *given)
        except UnknownName as unknown:
            return f"unknown {unknown.name}"
        except InvalidNumber as number:
            return f"number {number.value}"
        except InvalidRow:
            return "row"
        except InvalidOperation:
            return "operation"
        except InvalidHouse:
            return "house"
        except Unsteady:
            return "unsteady"
        except Refused as refused:
            return f"refused {refused.name}"
        except TooMany as most:
            return f"many {most.limit}"
        except NothingToUndo as nothing:
            return f"undo {nothing.many}"


def _given(words, many, ending):
    """The tuple of what the words of a line tell behind the command, None if they are not what it asks for."""
    names = tuple(words[1:many + 1])
    rest = tuple(words[many + 1:])
    if len(names) < many or not all([is_name(name) for name in names]):
        return None
    if ending == "":
        return None if rest else names
    if ending in ("deeds", "names"):
        wrong = not all([is_name(word) for word in rest]) or (ending == "deeds" and not rest)
        return None if wrong else names + (rest,)
    if not all([is_number(word) for word in rest]) or (ending == "number" and len(rest) > 1):
        return None
    return names + (tuple([int(word) for word in rest]),)


def _many_of(numbers):
    """The number of calls that a line tells, one if it tells none."""
    return numbers[0] if numbers else 1


def _line_of(words):
    """The words with blanks between."""
    return " ".join(words) or "none"


def _lines_of(lines):
    """The text with these lines."""
    return "\n".join(lines) or "none"
