"""Houses and values that several tests use, and the class from which tests are derived."""

import unittest
from functools import cache
from random import Random

from eachshare import errors
from eachshare.base.houses import House
from eachshare.desk.desk import Desk
from eachshare.share.shares import Share
from eachshare.text.shell import Shell
from eachshare.wish.wishes import Wish
from tests import again


def duo():
    return House(("l", "r"), {"a": ("l",), "b": ("r",), "m": ("l", "r")})


def line():
    return House(("p", "q", "r"), {"a": ("p",), "c": ("r",), "x": ("p", "q"), "y": ("q", "r")})


def groves():
    """A house of two trees, one of them with its top inside a line, and a hand without deeds in neither."""
    deeds = {"ab": ("a", "b"), "ac": ("a", "c"), "d": ("d",), "one": ("a",), "two": ("c",)}
    return House(("a", "b", "c", "d", "e"), deeds)


def snake():
    """A line of five hands, b c a e d, whose top stands inside it."""
    deeds = {"bc": ("b", "c"), "ac": ("a", "c"), "ae": ("a", "e"), "de": ("d", "e")}
    return House(("a", "b", "c", "d", "e"), deeds)


def houses():
    alone = House(("z",), {"z": ("z",)})
    twice = House(("k", "n"), {"e": ("k", "n"), "f": ("k", "n"), "g": ("k",)})
    return [duo(), line(), groves(), snake(), alone, twice]


def crowd():
    """A house of five hands and eight deeds: a hub with three hands around it, and one hand by itself."""
    deeds = {"ac": ("a", "c"), "bc": ("b", "c"), "cd": ("c", "d"), "on": ("a",), "tw": ("b",), "th": ("c",), "fo": ("d",)}
    return House(("a", "b", "c", "d", "e"), {**deeds, "fi": ("e",)})


def many_houses():
    """Houses of all these kinds, and one with a hand without deeds ahead of all others."""
    return houses() + [crowd(), House(("a", "b", "c"), {"u": ("b", "c"), "v": ("b",), "w": ("c",)})]


def even():
    return Wish(("a", "b", "m"), ((1, 1, 0), (0, 0, 1)), (0,))


def once():
    return Wish(("a", "b", "m"), ((1, 1, 0), (2, 2, 0), (2, 2, 2)), (0, 1))


def calm():
    return Wish(("a", "b", "m"), ((1, 2, 0), (1, 3, 0), (3, 2, 0), (3, 3, 3)), (0, 1, 2))


def first():
    return Wish(("a", "b", "m"), ((1, 2, 0), (1, 1, 1), (2, 2, 2)), (0, 1))


def odd_parts():
    """The parts of a share of duo, ahead of which only the house stands, with the rows of an odd number of a and b."""
    tables = {"a": (1, 0), "b": (1, 0), "m": (((0, 0), (0, 1)), ((1, 0), (1, 1)))}
    return {"l": 2, "r": 2}, tables, {"r": ((0, 1), (1, 0))}, (1,)


def odd_share():
    return Share(duo(), *odd_parts())


def turning(house, size, steps):
    """The wish whose states go round: a deed leads so many of them on, as the dict from deeds tells, or one."""
    ends = [tuple((state + steps.get(deed, 1)) % size for deed in house.deeds) for state in range(size)]
    return Wish(house.deeds, tuple(ends), (0,))


def grid(house, most):
    """The wish that counts for each of some deeds how often it is done, up to the most that the dict tells."""
    places = [()]
    for many in most.values():
        places = [place + (count,) for place in places for count in range(many + 1)]
    counts = [dict(zip(most, place)) for place in places]
    more = [
        [{**count, deed: min(count[deed] + 1, most[deed])} if deed in most else count for deed in house.deeds]
        for count in counts
    ]
    ends = tuple(tuple(counts.index(count) for count in row) for row in more)
    # A state is kept by a sum that tells apart all that can be counted further.
    return Wish(house.deeds, ends, (len(ends) - 1,))


@cache
def steady(seed, each=4, most=8):
    """Pairs of a house and a wish that is steady for it: some drawn ones for each house, and written ones."""
    rng = Random(seed)
    found = [(duo(), wish) for wish in (even(), once(), calm(), even() & once(), calm().turned())]
    found += [(line(), turning(line(), 5, {"x": 0, "c": 2})), (line(), grid(line(), {"a": 1, "c": 2}))]
    found += [(snake(), turning(snake(), 3, {"ae": 2})), (groves(), turning(groves(), 4, {"two": 0, "d": 3}))]
    for house in many_houses():
        drawn = []
        while len(drawn) < each:
            machine = again.machine_of_parts(house, again.random_parts(rng, house, 3), 60)
            if machine is not None:
                try:
                    wish = Wish(*machine)
                except errors.TooMany:
                    continue
                if 1 < len(wish) <= most:
                    drawn.append((house, wish))
        found += drawn
    return found


@cache
def falling():
    """Pairs of a house and a steady wish with many lasting sets, each with these sets."""
    alone = House(("k", "l", "n"), {"a": ("k",), "b": ("l",), "c": ("n",)})
    found = [(duo(), calm()), (duo(), once()), (duo(), grid(duo(), {"a": 1, "b": 2})), (duo(), gadgets(2))]
    found += [(line(), grid(line(), {"a": 1, "c": 1})), (alone, grid(alone, {"a": 1, "b": 1, "c": 1}))]
    found += [(groves(), grid(groves(), {"one": 1, "d": 1})), (snake(), grid(snake(), {"bc": 1, "de": 1}))]
    found += [(duo(), ~once() | calm()), (line(), grid(line(), {"x": 1, "c": 2})), (duo(), once() & calm().turned())]
    found += [(house, wish) for house, wish in steady(21, most=6) if 2 < len(again.lasting_sets(wish))]
    return [(house, wish, again.lasting_sets(wish)) for house, wish in found]


def gadgets(many):
    """A wish in which b behind a, or a behind b, is a loss, from so many states that the deed m goes through in turn.

    Behind one of both alone deeds m are losses, too, and the deeds c, d, e if a bit of the number of the state tells so.
    """
    lost = many * 3
    deeds = ("a", "b") + ("c", "d", "e") * (many > 2) + ("m",)
    ends = []
    for at in range(many):
        labels = (lost,) * (len(deeds) - 3)
        ends.append((many + at, many * 2 + at) + labels + ((at + 1) % many,))
    for side in (1, 2):
        for at in range(many):
            state = side * many + at
            labels = tuple(state if at >> bit & 1 else lost for bit in range(len(deeds) - 3))
            stay = (state, lost) if side == 1 else (lost, state)
            ends.append(stay + labels + (state if many <= 2 and at else lost,))
    return Wish(deeds, tuple(ends) + ((lost,) * len(deeds),), tuple(range(lost)))


def told(house):
    """All that a house tells of itself."""
    doers = {deed: house[deed] for deed in house.deeds}
    hands = [(hand, house.deeds_of(hand), house.above(hand), house.side(hand)) for hand in house.hands]
    return [house.hands, house.deeds, house.links, house.apart, doers, hands, len(house), str(house)]


def nested(wrap, core, deep):
    for _ in range(deep):
        core = wrap(core)
    return core


def plain_values():
    """Values that are neither a name, nor a tuple of names, nor a dict from names."""
    numbers = [0, 1, -1, 7, 10 ** 59, 10 ** 60 - 1, 10 ** 60, -(10 ** 60), 10 ** 99, 10 ** 100 - 1, 1 - 10 ** 100]
    texts = ["", "A", "aB", "a b", " a", "a\n", "\n", "a1", "a_b", "a-b", "`", "{", "@", "overlongx", "l, r", "('l', 'r')"]
    texts += ["a" * 4000, "A" * 4000, "\n" * 4000, " ~" * 2000]
    return [True, False, None] + numbers + texts


def nested_values():
    values = [[], ["l"], ["l", "r"], [True], (1,), (True,), (None,), ("",), ("l", 1), (("l",),), (["l"],), ({"l": 1},)]
    values += [{1: 2}, {True: ("l",)}, {None: None}, {("a",): ("l",)}, {"": ("l",)}, {"A": ("l",)}, {(): []}]
    for core in ("l", 0, None, (), [], {}):
        values.append(nested(lambda part: (part, 1), core, 9))
        values.append(nested(lambda part: [part], core, 9))
        values.append(nested(lambda part: {0: part}, core, 9))
        values.append(nested(lambda part: ([{1: part}],), core, 3))
    return values


def own_objects():
    houses_alone = [duo(), line(), (duo(),), [line()], {0: duo()}]
    others = [even(), (even(),), [first()], {1: calm()}, odd_share(), (odd_share(), 0), [odd_share()]]
    desk = Desk(duo())
    desk.keep("calm", calm(), guarded=(3,))
    others += [desk, (desk,), {0: desk}, desk.trial(), Shell("hands l\ndeed a l", {})]
    return houses_alone + others + [errors.InvalidHouse("l"), errors.UnknownName("l")]


def odd_values():
    """Values that are no name, no tuple of names and no dict from names, of every kind that can be passed."""
    return plain_values() + nested_values() + own_objects()


def odd_values_but(*kinds):
    """The odd values that are of none of these kinds."""
    return [value for value in odd_values() if not isinstance(value, kinds)]


def no_numbers(limit):
    """Values that are no integers from 0 on that are less than the limit; the limit and -1 are among them."""
    numbers = [value for value in odd_values() if type(value) is not int or not 0 <= value < limit]
    return numbers + [limit, limit + 1, -1, "0", (), (0,), [0]]


def no_states(many):
    """Values that are no sets of states of a wish with so many."""
    values = [[0], (1, 0), (0, 0), (many,), (0, many), (-1,), (True,), (False, 1), 0, "0", (None,), ((0,),), {0: 0}]
    values += [(0, 1, many), (0, -1), ("0",), (0, "1"), list(range(many)), (10 ** 60,), (0, [1])] + odd_values()
    return [value for value in values if not is_ascending(value) or not set(value) <= set(range(many))]


def is_ascending(value):
    """Whether the value is a tuple of integers, each greater than the one ahead of it."""
    return type(value) is tuple and all(type(part) is int for part in value) and list(value) == sorted(set(value))


def no_hands():
    """Values that are no sets of hands of duo."""
    values = [["l"], ("r", "l"), ("l", "l"), ("l", "zz"), ("a",), "l", ("lr",), {"l": 1}, (("l",),), ("l", "r", "zz")]
    return values + [(None,), ("l", 1), ("l", ["r"])] + [value for value in odd_values() if value != ()]


class Case(unittest.TestCase):
    def caught(self, error, call, *given, **more):
        """The error of a call, which must be of just this class."""
        try:
            call(*given, **more)
        except Exception as found:
            self.assertIs(type(found), error, f"{given!r:.200} {more!r:.200}")
            return found
        return self.fail(f"no {error.__name__}: {given!r:.200} {more!r:.200}")

    def wrong_number(self, value, call, *given):
        """The call must raise InvalidNumber that keeps the very value."""
        self.assertIs(self.caught(errors.InvalidNumber, call, *given).value, value)

    def not_iterated_over(self, value):
        for call in (iter, list, tuple, sorted, dict, enumerate, zip):
            self.caught(TypeError, call, value)
        with self.assertRaises(TypeError):
            for _ in value:
                pass
        with self.assertRaises(TypeError):
            one, other = value

    def too_many(self, limit, call, *given):
        self.assertEqual(self.caught(errors.TooMany, call, *given).limit, limit)

    def unknown(self, name, call, *given):
        """The call must raise UnknownName that keeps the very name."""
        self.assertIs(self.caught(errors.UnknownName, call, *given).name, name)
