"""Stage 6: which shares there are, and what they tell of their parts."""

from random import Random

from eachshare.base.houses import House
from eachshare.errors import InvalidHouse, InvalidShare
from eachshare.share.shares import Share
from tests import again
from tests.samples import Case, duo, line, many_houses, odd_parts, odd_share, odd_values, odd_values_but

NO_NUMBERS = (-1, 65, 10 ** 59, 10 ** 60, 10 ** 99, True, False, None, "0", "", (), (0,), [0], {}, {0: 0})
# The hands of these tests have two or three states.
NO_STATES = NO_NUMBERS + (3, 64)
NO_SIZES = NO_NUMBERS + (0,)


def bent_tuple(value, leaf):
    """A tuple, and all tuples in it, bent at each place: left out, put in, made a list, replaced."""
    yield list(value)
    yield value + value[-1:]
    yield value[:1] + value
    yield value[:-1]
    yield value[1:]
    yield dict(enumerate(value))
    for place, part in enumerate(value):
        for other in bent(part, leaf):
            yield value[:place] + (other,) + value[place + 1:]


def bent_dict(value, leaf):
    yield list(value.items())
    yield tuple(value.items())
    for key in ("zz", "", "A", 0, True, None, ("l",)):
        yield {**value, key: list(value.values())[0] if value else 0}
    for key in value:
        yield {other: value[other] for other in value if other != key}
        yield {"zz" if other == key else other: value[other] for other in value}
        for other in bent(value[key], leaf):
            yield {**value, key: other}


def bent(value, leaf):
    """The value with each of its parts bent, one at a time; each number is replaced by each of the leaves."""
    if isinstance(value, dict):
        yield from bent_dict(value, leaf)
    elif isinstance(value, tuple):
        yield from bent_tuple(value, leaf)
    else:
        yield from leaf
    yield from (None, "", 5, [value], (value,))


def shares():
    rng = Random(1)
    return [(duo(), odd_parts())] + [(house, grown(rng, house)) for house in many_houses()]


def grown(rng, house):
    """The parts of a share with two or three states of each hand."""
    while True:
        parts = again.random_parts(rng, house, 3)
        if min(parts[0].values()) > 1:
            return parts


def given(parts):
    """Copies of the parts, whose dicts can be changed."""
    return [dict(part) if isinstance(part, dict) else part for part in parts]


class Bent(Case):
    def refused(self, house, parts, at, others):
        for other in others:
            wrong = list(parts)
            wrong[at] = other
            self.caught(InvalidShare, Share, house, *wrong)

    def test_as_they_are(self):
        for house, parts in shares():
            share = Share(house, *parts)
            self.assertEqual([share.house, share.sizes, share.tables, share.folds, share.kept], [house, *parts])

    def test_sizes(self):
        for house, parts in shares():
            self.refused(house, parts, 0, bent(parts[0], NO_SIZES))

    def test_other_sizes(self):
        for house, parts in shares():
            for hand in house.hands:
                for size in set(range(1, 65)) - {parts[0][hand]}:
                    self.caught(InvalidShare, Share, house, {**parts[0], hand: size}, *parts[1:])

    def test_tables(self):
        for house, parts in shares():
            self.refused(house, parts, 1, bent(parts[1], NO_STATES))

    def test_folds(self):
        for house, parts in shares():
            self.refused(house, parts, 2, bent(parts[2], NO_STATES))

    def test_each_number_just_above_its_limit(self):
        for house, parts in shares():
            for hand in house.hands[1:]:
                many = parts[0][again.hearer(house, hand)]
                for state in range(parts[0][hand]):
                    rows = list(parts[2][hand])
                    rows[state] = rows[state][:-1] + (many,)
                    self.refused(house, parts, 2, [{**parts[2], hand: tuple(rows)}])
            for deed in house.deeds:
                many = [parts[0][hand] for hand in house[deed]]
                if len(many) == 1:
                    self.refused(house, parts, 1, [{**parts[1], deed: parts[1][deed][:-1] + (many[0],)}])
                else:
                    for pair in ((many[0], 0), (0, many[1]), (many[0], many[1])):
                        last = parts[1][deed][-1][:-1] + (pair,)
                        self.refused(house, parts, 1, [{**parts[1], deed: parts[1][deed][:-1] + (last,)}])

    def test_kept(self):
        for house, parts in shares():
            many = parts[0][house.hands[0]]
            wrong = [(many,), (0, many), (0, 0), (1, 0), (0, 1, 1), [0], [0, 1], 0, "0", {0: 1}, {}, [], (True,), (0, True)]
            wrong += [(odd,) for odd in NO_STATES] + [(0, odd) for odd in NO_STATES]
            self.refused(house, parts, 3, wrong)
            for kept in ((), (0,), (1,), (0, 1), tuple(range(many))):
                self.assertEqual(Share(house, *parts[:3], kept).kept, kept)

    def test_values_of_other_kinds(self):
        for at, keys in ((0, "lr"), (1, "abm"), (2, "r")):
            self.refused(duo(), odd_parts(), at, odd_values() + ["l", "a", (), [], {}])
            for key in keys:
                self.refused(duo(), odd_parts(), at, [{**odd_parts()[at], key: odd} for odd in odd_values()])
        self.refused(duo(), odd_parts(), 3, [odd for odd in odd_values() if odd != (1,) or type(odd[0]) is not int])

    def test_house(self):
        for odd in odd_values_but(House) + ["l", (), {}]:
            self.caught(InvalidHouse, Share, odd, *odd_parts())
            self.caught(InvalidHouse, Share, odd, odd, odd, odd, odd)
        for odd in odd_values():
            self.caught(InvalidShare, Share, duo(), odd, odd, odd, odd)

    def test_parts_of_another_house(self):
        for house in (line(), duo().given("m", "l"), duo().with_deed("c", ("l",)), duo().renamed(hands={"r": "k"})):
            self.caught(InvalidShare, Share, house, *odd_parts())

    def test_a_top_of_another_tree_tells_to_the_first_hand(self):
        house = House(("a", "b", "c"), {"u": ("b", "c")})
        table = {"u": (((0, 0),) * 2,) * 4}
        folds = {"b": (tuple(range(3)),) * 4, "c": (tuple(range(4)),) * 2}
        self.assertEqual(Share(house, {"a": 3, "b": 4, "c": 2}, table, folds, (2,)).folds, folds)
        self.caught(InvalidShare, Share, house, {"a": 3, "b": 4, "c": 2}, table, {**folds, "c": (tuple(range(3)),) * 2}, (2,))
        self.caught(InvalidShare, Share, house, {"a": 3, "b": 4, "c": 2}, table, {**folds, "b": (tuple(range(4)),) * 4}, (2,))

    def test_one_and_sixty_four_states(self):
        house = House(("l", "r"), {"m": ("l", "r")})
        for one in (1, 2, 63, 64):
            for other in (1, 64):
                parts = ({"l": one, "r": other}, {"m": (((0, 0),) * other,) * one}, {"r": ((0,) * one,) * other}, (one - 1,))
                share = Share(house, *parts)
                self.assertEqual([len(share), share.sizes], [one + other, parts[0]])
        for one, other in ((65, 1), (1, 65), (0, 1), (1, 0), (0, 0)):
            parts = ({"l": one, "r": other}, {"m": (((0, 0),) * other,) * one}, {"r": ((0,) * one,) * other}, ())
            self.caught(InvalidShare, Share, house, *parts)
        self.caught(InvalidShare, Share, House(("z",), {"z": ("z",)}), {"z": 0}, {"z": ()}, {}, ())


class Told(Case):
    def test_ascending_keys(self):
        for house, parts in shares():
            backwards = [dict(reversed(part.items())) if isinstance(part, dict) else part for part in parts]
            share = Share(house, *backwards)
            self.assertEqual(list(share.sizes), list(house.hands))
            self.assertEqual(list(share.tables), list(house.deeds))
            self.assertEqual(list(share.folds), list(house.hands[1:]))
            self.assertEqual([share, repr(share)], [Share(house, *parts), repr(Share(house, *parts))])
            row = again.random_row(Random(2), house.deeds, 50)
            self.assertEqual(share.after(row), Share(house, *parts).after(row))

    def test_told_dicts_can_be_changed(self):
        for house, parts in shares():
            share = Share(house, *parts)
            for told in (share.sizes, share.tables, share.folds):
                for key in list(told):
                    told[key] = 0
                told.clear()
                told["zz"] = 5
            self.assertEqual([share.sizes, share.tables, share.folds], list(parts[:3]))
            self.assertEqual(share, Share(house, *parts))

    def test_passed_dicts_can_be_changed(self):
        for house, parts in shares():
            passed = given(parts)
            share = Share(house, *passed)
            self.assertEqual([list(part) for part in passed], [list(part) for part in given(parts)])
            for part in passed[:3]:
                part.clear()
                part["zz"] = 5
            self.assertEqual([share.sizes, share.tables, share.folds, share.kept], list(parts))

    def test_kinds_of_values(self):
        for house, parts in shares():
            share = Share(house, *parts)
            self.assertEqual([type(part) for part in (share.sizes, share.tables, share.folds)], [dict] * 3)
            self.assertEqual([type(share.kept), type(share.first), type(share.house)], [tuple, tuple, House])

    def test_equal(self):
        found = [Share(house, *parts) for house, parts in shares()]
        for at, one in enumerate(found):
            for place, other in enumerate(found):
                self.assertIs(one == other, at == place)
                self.assertIs(one != other, at != place)

    def test_equal_needs_each_part(self):
        sizes, tables, folds, kept = odd_parts()
        others = [
            (sizes, {**tables, "a": (0, 1)}, folds, kept), (sizes, tables, {"r": ((1, 0), (0, 1))}, kept),
            (sizes, tables, folds, ()), (sizes, tables, folds, (0, 1)),
        ]
        for parts in others:
            self.assertIs(Share(duo(), *parts) == odd_share(), False)
            self.assertIs(Share(duo(), *parts) != odd_share(), True)
        house = House(("l", "r"), {"a": ("l",), "b": ("l",), "m": ("l", "r")})
        self.assertIs(Share(house, *odd_parts()) == odd_share(), False)
        more = ({"l": 2, "r": 3}, {**tables, "b": (1, 0, 0), "m": tuple(row + ((0, 0),) for row in tables["m"])},
                {"r": folds["r"] + ((0, 0),)}, kept)
        self.assertIs(Share(duo(), *more) == odd_share(), False)

    def test_properties_are_not_assigned(self):
        for name in ("house", "sizes", "tables", "folds", "kept", "first"):
            self.caught(AttributeError, setattr, odd_share(), name, ())
