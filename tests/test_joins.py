"""[0.15], stage 7: what leads to which side, joins, and outlooks."""

from itertools import product
from random import Random

from eachshare.base.houses import House
from eachshare.errors import InvalidHouse, InvalidNumber, InvalidOperation, InvalidRow, InvalidWish, TooMany, Unsteady
from eachshare.share.joins import join, next_outlook, outlook, outlooks, rest_ends, side_ends
from eachshare.share.steady import is_breach
from eachshare.wish.wishes import Wish
from tests import again
from tests.samples import Case, calm, crowd, duo, even, first, groves, line, no_numbers, odd_values, odd_values_but
from tests.samples import once, snake, steady, turning


def short_rows(house):
    return again.all_rows(house.deeds, 5 if len(house.deeds) < 4 else 3 if len(house.deeds) < 8 else 2)


def places(house, wish):
    return product(house.hands, range(len(wish)))


def few(many):
    """Samples with no more than so many outlooks."""
    return [(house, wish) for house, wish in steady(7) if len(outlooks(house, wish)) <= many]


class Ends(Case):
    def test_both_sorts(self):
        for house, wish in steady(1):
            for hand, state in places(house, wish):
                wanted = again.reached(wish, again.side_deeds(house, hand), state)
                self.assertEqual(side_ends(house, wish, hand, state), wanted)
                wanted = again.reached(wish, again.rest_deeds(house, hand), state)
                self.assertEqual(rest_ends(house, wish, hand, state), wanted)

    def test_by_rows(self):
        wish = turning(line(), 7, {"x": 2, "c": 0})
        # Below q is r alone; x is of neither sort for q, and y of neither one for r.
        self.assertEqual(side_ends(line(), wish, "q", 3), tuple(range(7)))
        self.assertEqual([rest_ends(line(), wish, "q", 3), side_ends(line(), wish, "r", 3)], [tuple(range(7)), (3,)])
        counts = Wish(line().deeds, ((0, 0, 1, 0), (0, 0, 2, 0), (1, 1, 2, 2)), (0,))
        self.assertEqual(side_ends(line(), turning(line(), 4, {"c": 2, "y": 0}), "q", 1), (1, 3))
        self.caught(Unsteady, side_ends, line(), counts, "q", 0)

    def test_tops_and_hands_without_deeds(self):
        house = House(("k", "l", "n"), {"a": ("l", "n"), "b": ("l",)})
        wish = turning(house, 4, {"b": 2})
        self.assertEqual([side_ends(house, wish, "k", 1), rest_ends(house, wish, "k", 1)], [(1,), (0, 1, 2, 3)])
        self.assertEqual([side_ends(house, wish, "l", 1), rest_ends(house, wish, "l", 1)], [(0, 1, 2, 3), (1,)])
        self.assertEqual([side_ends(house, wish, "n", 1), rest_ends(house, wish, "n", 1)], [(1,), (1, 3)])

    def test_kinds(self):
        for house, wish in steady(1)[::4]:
            for call in (side_ends, rest_ends):
                found = call(house, wish, house.hands[-1], 0)
                self.assertEqual([type(found)] + [type(state) for state in found], [tuple] + [int] * len(found))


class Joins(Case):
    def test_rows_of_both_sorts(self):
        rng = Random(2)
        for house, wish in steady(2):
            for hand, state in places(house, wish):
                sides = again.all_rows(again.side_deeds(house, hand), 2)
                rests = again.all_rows(again.rest_deeds(house, hand), 2)
                for one, other in rng.sample(list(product(sides, rests)), min(30, len(sides) * len(rests))):
                    ends = [again.end(wish.deeds, wish.targets, row, state) for row in (one, other)]
                    mixed = one[:1] + other[:1] + one[1:] + other[1:]
                    for row in (one + other, other + one, mixed):
                        wanted = again.end(wish.deeds, wish.targets, row, state)
                        self.assertEqual(join(house, wish, hand, state, *ends), wanted)

    def test_all_ends(self):
        for house, wish in steady(2, most=5):
            for hand, state in places(house, wish):
                sides = again.reached(wish, again.side_deeds(house, hand), state)
                rests = again.reached(wish, again.rest_deeds(house, hand), state)
                for one, other in product(range(len(wish)), repeat=2):
                    if one not in sides:
                        self.wrong_number(one, join, house, wish, hand, state, one, other)
                    elif other not in rests:
                        self.wrong_number(other, join, house, wish, hand, state, one, other)
                    else:
                        found = join(house, wish, hand, state, one, other)
                        self.assertIn(found, again.reached(wish, again.rest_deeds(house, hand), one))
                        self.assertIn(found, again.reached(wish, again.side_deeds(house, hand), other))

    def test_nothing_on_one_side(self):
        for house, wish in steady(2):
            for hand, state in places(house, wish):
                for one in side_ends(house, wish, hand, state):
                    self.assertEqual(join(house, wish, hand, state, one, state), one)
                for other in rest_ends(house, wish, hand, state):
                    self.assertEqual(join(house, wish, hand, state, state, other), other)

    def test_long(self):
        wish = turning(duo(), 24, {"b": 5})
        at = [wish.after(("a",) * many) for many in range(24)]
        for one, other in ((0, 0), (23, 1), (5, 20), (11, 13)):
            self.assertEqual(join(duo(), wish, "r", at[3], at[one], at[other]), at[(one + other - 3) % 24])


class Outlooks(Case):
    def test_behind_rows(self):
        for house, wish in steady(3):
            for row in short_rows(house):
                self.assertEqual(outlook(house, wish, row), again.outlook(house, wish, row), (house, wish, row))

    def test_behind_longer_rows(self):
        rng = Random(4)
        for house, wish in steady(3):
            for size in (8, 20, 60):
                row = again.random_row(rng, house.deeds, size)
                self.assertEqual(outlook(house, wish, row), again.outlook(house, wish, row))

    def test_rows_of_thousands_of_deeds(self):
        wish = turning(crowd(), 24, {"th": 7, "ac": 0})
        row = again.random_row(Random(5), crowd().deeds, 4000)
        found = outlook(crowd(), wish, row)
        self.assertEqual([state for _, state in found], [again.view_of(crowd(), wish, row, hand) for hand in crowd().hands])

    def test_alike_rows(self):
        for house, wish in steady(3)[::2]:
            for row in short_rows(house)[::5]:
                found = {outlook(house, wish, other) for other in again.alike(house, row)}
                self.assertEqual(len(found), 1)

    def test_tops_keep_zero(self):
        for house, wish in steady(3)[::2]:
            for row in short_rows(house)[::3]:
                pairs = dict(zip(house.hands, outlook(house, wish, row)))
                self.assertEqual({pairs[hand][0] for hand in house.hands if house.above(hand) is None}, {0})
        self.assertEqual(outlook(groves(), turning(groves(), 4, {}), ()), ((0, 0),) * 5)

    def test_by_hand(self):
        wish = turning(snake(), 9, {})
        # b c a e d is a line with its top a inside: d knows of its last deed with e what e knew then.
        row = ("bc", "de", "ac", "ae", "bc", "de")
        self.assertEqual(outlook(snake(), wish, row), ((0, 4), (3, 3), (2, 3), (5, 5), (4, 5)))
        self.assertEqual(outlook(snake(), wish, row[:3]), ((0, 2), (1, 1), (2, 2), (1, 1), (0, 1)))

    def test_one_deed_more(self):
        for house, wish in few(40):
            for found, row in again.rows_to_outlooks(house, wish).items():
                for deed in house.deeds:
                    wanted = again.outlook(house, wish, row + (deed,))
                    self.assertEqual(next_outlook(house, wish, found, deed), wanted)

    def test_all(self):
        for house, wish in few(400):
            self.assertEqual(outlooks(house, wish), tuple(sorted(again.rows_to_outlooks(house, wish))))

    def test_kinds(self):
        found = outlooks(duo(), calm())
        self.assertEqual({type(part) for part in found} | {type(found), type(found[0][1])}, {tuple})
        self.assertEqual({type(state) for part in found for pair in part for state in pair}, {int})


class NoOutlooks(Case):
    def refused(self, house, wish, value):
        self.caught(InvalidOperation, next_outlook, house, wish, value, house.deeds[0])

    def test_all_tuples_of_pairs(self):
        for house, wish in ((duo(), even()), (duo(), once()), (duo(), calm())):
            known = set(again.rows_to_outlooks(house, wish))
            pairs = list(product(range(len(wish)), repeat=2))
            self.assertTrue(len(known) < len(pairs) ** 2)
            for value in product(pairs, repeat=2):
                if value in known:
                    self.assertIn(next_outlook(house, wish, value, "a"), known)
                else:
                    self.refused(house, wish, value)

    def test_bent(self):
        for house, wish in few(40):
            for value in outlooks(house, wish)[::7]:
                odd = [list(value), value + value[-1:], value[:-1], (value,), dict(enumerate(value))]
                for place in range(len(value)):
                    base, state = value[place]
                    for pair in ([base, state], (base,), (base, state, 0), (base, len(wish)), (-1, state), (base, None)):
                        odd.append(value[:place] + (pair,) + value[place + 1:])
                for other in odd:
                    self.refused(house, wish, other)

    def test_true_is_no_state(self):
        self.assertEqual(next_outlook(duo(), even(), ((0, 1), (0, 1)), "m"), ((0, 0), (0, 0)))
        for value in (((0, True), (0, 1)), ((False, 1), (0, 1)), ((0, 1), (False, 1)), ((0, 1), (0, True))):
            self.refused(duo(), even(), value)

    def test_of_other_kinds(self):
        self.refused(duo(), even(), (0, 0))
        for odd in odd_values() + [(), ((0, 0),), [(0, 0), (0, 0)]]:
            self.refused(duo(), even(), odd)
            self.refused(duo(), even(), (odd, (0, 0)))
            self.refused(duo(), even(), ((0, 0), odd))
        for odd in no_numbers(2):
            self.refused(duo(), even(), ((0, 0), (0, odd)))


class Limits(Case):
    alone = House(("k", "l", "n"), {"a": ("k",), "b": ("l",), "c": ("n",)})

    def test_just_as_many_as_can_be_told(self):
        wish = turning(self.alone, 20, {"b": 2, "c": 2})
        wanted = tuple(product([(0, state) for state in range(20)], *[[(0, state) for state in range(0, 20, 2)]] * 2))
        self.assertEqual([len(wanted), outlooks(self.alone, wish)], [2000, wanted])
        self.assertEqual(next_outlook(self.alone, wish, ((0, 3), (0, 2), (0, 18)), "c"), ((0, 3), (0, 2), (0, 0)))
        self.caught(InvalidOperation, next_outlook, self.alone, wish, ((0, 3), (0, 3), (0, 18)), "c")

    def test_more(self):
        for wish in (turning(self.alone, 16, {"c": 2}), turning(self.alone, 24, {})):
            self.too_many(2000, outlooks, self.alone, wish)
            for value in (((0, 0),) * 3, None, (), ((0, 0), (0, 24), (0, 0))):
                self.too_many(2000, next_outlook, self.alone, wish, value, "a")
        self.too_many(2000, outlooks, duo(), turning(duo(), 13, {}))
        self.assertEqual(len(outlooks(duo(), turning(duo(), 12, {}))), 12 ** 3)
        self.too_many(2000, outlooks, crowd(), turning(crowd(), 24, {}))

    def test_other_calls_have_no_limit(self):
        wish = turning(self.alone, 24, {})
        self.assertEqual(outlook(self.alone, wish, ("a", "b", "c", "c")), ((0, 1), (0, 1), (0, 2)))
        self.assertEqual([len(side_ends(self.alone, wish, "k", 5)), join(self.alone, wish, "l", 5, 6, 8)], [24, 9])


class Errors(Case):
    # Each call with what follows a house and a wish in it.
    calls = (
        (side_ends, ("l", 0)), (rest_ends, ("l", 0)), (join, ("l", 0, 0, 0)), (outlook, ((),)),
        (next_outlook, (((0, 0),) * 2, "a")), (outlooks, ()),
    )

    def test_house(self):
        for call, more in self.calls:
            for odd in odd_values_but(House):
                self.caught(InvalidHouse, call, odd, even(), *more)
                self.caught(InvalidHouse, call, odd, odd, *[odd for _ in more])

    def test_wish(self):
        for call, more in self.calls:
            for odd in odd_values_but(Wish):
                self.caught(InvalidWish, call, duo(), odd, *more)
                self.caught(InvalidWish, call, line(), odd, *[odd for _ in more])

    def test_belongs_and_steady(self):
        for call, more in self.calls:
            for house in (duo().with_deed("c", ("l",)), duo().renamed(deeds={"a": "aa"}).with_deed("a", ("l",))):
                self.caught(InvalidOperation, call, house, even(), *more)
                self.caught(InvalidOperation, call, house, first(), *more)
            found = self.caught(Unsteady, call, duo(), first(), *more).breach
            self.assertIs(is_breach(duo(), first(), found), True)
        loose = House(("k", "l"), {"a": ("k",), "b": ("l",), "m": ("l",)})
        for call, more in self.calls:
            self.caught(Unsteady, call, loose, once(), *more)

    def test_hand(self):
        for call, more in self.calls[:3]:
            for odd in odd_values() + ["a", "m", ("l",), ["l"]]:
                self.unknown(odd, call, duo(), even(), odd, *more[1:])
                self.unknown(odd, call, duo(), even(), odd, *[odd for _ in more[1:]])
                self.unknown(odd, call, line(), even(), odd, *more[1:])
                self.unknown(odd, call, duo(), first(), odd, *more[1:])

    def test_state(self):
        for call, more in self.calls[:3]:
            for odd in no_numbers(2):
                self.wrong_number(odd, call, duo(), even(), "r", odd, *more[2:])
                self.wrong_number(odd, call, duo(), even(), "r", odd, *[odd for _ in more[2:]])
            self.wrong_number(3, call, duo(), first(), "r", 3, *more[2:])
            self.wrong_number(3, call, duo().with_deed("c", ("l",)), even(), "r", 3, *more[2:])

    def test_ends(self):
        for odd in no_numbers(2):
            self.wrong_number(odd, join, duo(), even(), "r", 0, odd, 1)
            self.wrong_number(odd, join, duo(), even(), "r", 0, 1, odd)
            self.wrong_number(odd, join, duo(), even(), "r", 0, odd, odd)
        # The states are numbered as they are met: 0, 2, 1, 3 on the way round.
        wish = turning(duo(), 4, {"a": 2})
        self.assertEqual([side_ends(duo(), wish, "r", 0), rest_ends(duo(), wish, "r", 0)], [(0, 1, 2, 3), (0, 1)])
        self.wrong_number(3, join, duo(), wish, "r", 0, 1, 3)
        wish = turning(duo(), 4, {"b": 2, "a": 2})
        self.assertEqual([side_ends(duo(), wish, "r", 0), rest_ends(duo(), wish, "r", 2)], [(0, 1), (2, 3)])
        self.wrong_number(3, join, duo(), wish, "r", 0, 3, 1)
        self.wrong_number(3, join, duo(), wish, "r", 0, 3, 2)
        self.wrong_number(2, join, duo(), wish, "r", 0, 1, 2)
        self.assertEqual(join(duo(), wish, "r", 2, 3, 3), 2)

    def test_ends_come_last(self):
        # What is no end is refused behind all else, whether it is a state or not, and the first one ahead of the other.
        wish = turning(duo(), 4, {"b": 2, "a": 2})
        for odd in no_numbers(3) + [0, 1, 2]:
            self.caught(InvalidOperation, join, line(), even(), "r", 0, odd, odd)
            self.caught(InvalidOperation, join, line(), first(), "r", 0, 0, odd)
            self.caught(Unsteady, join, duo(), first(), "r", 1, odd, 0)
            self.caught(Unsteady, join, duo(), first(), "r", 1, 1, odd)
            self.wrong_number(3, join, duo(), wish, "r", 0, 3, odd)

    def test_row(self):
        for odd in odd_values() + ["a", ["a"], ("z",), ("a", ["b"]), ("l",), {}, []]:
            self.caught(InvalidRow, outlook, duo(), even(), odd)
            self.caught(InvalidRow, outlook, line(), even(), odd)
            self.caught(InvalidRow, outlook, duo(), first(), ("a", odd) if odd != "a" else odd)

    def test_deed(self):
        wide = turning(Limits.alone, 24, {})
        for odd in odd_values() + ["l", "z", ("a",), ["a"]]:
            self.unknown(odd, next_outlook, duo(), even(), ((0, 0),) * 2, odd)
            self.unknown(odd, next_outlook, line(), even(), odd, odd)
            self.unknown(odd, next_outlook, duo(), first(), odd, odd)
            self.unknown(odd, next_outlook, Limits.alone, wide, odd, odd)

    def test_unsteady_ahead_of_what_follows(self):
        self.caught(Unsteady, join, duo(), first(), "r", 1, 0, 0)
        self.caught(Unsteady, next_outlook, duo(), first(), None, "a")
        house = Limits.alone
        wide = turning(house, 24, {})
        rows = [list(ends) for ends in wide.targets]
        rows[5][0] = 5
        odd = Wish(wide.deeds, tuple(tuple(ends) for ends in rows), wide.kept)
        self.assertIs(type(self.caught(Unsteady, outlooks, house, odd)), Unsteady)
        self.caught(Unsteady, next_outlook, house, odd, ((0, 0),) * 3, "a")

    def test_too_many_is_its_own_class(self):
        self.assertIs(type(self.caught(TooMany, outlooks, duo(), turning(duo(), 24, {}))), TooMany)
        self.assertFalse(issubclass(TooMany, InvalidNumber))
