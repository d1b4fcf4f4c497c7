"""[0.8], [0.9], [0.12], stage 3: rows."""

import inspect
from collections import defaultdict
from itertools import islice, product
from random import Random

from eachshare.base.houses import House
from eachshare.base.rows import (
    alike_rows, are_alike, exchanged, first_alike, layers, own_row, own_rows, past, whole,
)
from eachshare.errors import InvalidHouse, InvalidOperation, InvalidRow, Unmatched
from tests import again
from tests.samples import Case, crowd, duo, groves, line, many_houses, odd_values, odd_values_but, snake


def short_rows(house):
    """All rows of the house up to a size at which they are still some hundreds."""
    size = 0
    while sum(len(house.deeds) ** many for many in range(size + 2)) < 700 and size < 6:
        size += 1
    return again.all_rows(house.deeds, size)


def long_rows(house, size=400):
    rng = Random(5)
    return [again.random_row(rng, house.deeds, size + more) for more in (0, 1, 77)]


def rows_of(house):
    return short_rows(house) + long_rows(house)


class Each(Case):
    def each(self, rows):
        for house in many_houses():
            for row in rows(house):
                yield house, row

    def test_own_rows(self):
        for house, row in self.each(rows_of):
            wanted = again.own_rows(house, row)
            found = own_rows(house, row)
            self.assertEqual(found, wanted)
            self.assertEqual(list(found), list(house.hands))
            self.assertEqual({hand: own_row(house, row, hand) for hand in house.hands}, wanted)

    def test_past(self):
        for house, row in self.each(rows_of):
            for hand in house.hands:
                self.assertEqual(past(house, row, hand), again.past(house, row, hand), (row, hand))

    def test_layers(self):
        for house, row in self.each(rows_of):
            self.assertEqual(layers(house, row), again.layers(house, row), row)

    def test_layers_one_behind_the_other(self):
        for house, row in self.each(rows_of):
            joined = tuple(deed for layer in layers(house, row) for deed in layer)
            self.assertIs(are_alike(house, row, joined), True)

    def test_first_layer_begins_alike_rows(self):
        for house, row in self.each(short_rows):
            firsts = sorted({other[0] for other in again.alike(house, row) if other})
            self.assertEqual(layers(house, row)[:1], (tuple(firsts),) if row else ())

    def test_alike_rows(self):
        for house, row in self.each(short_rows):
            wanted = again.alike(house, row)
            self.assertEqual(list(alike_rows(house, row)), wanted)
            self.assertEqual(first_alike(house, row), wanted[0])

    def test_long_first_alike(self):
        for house, row in self.each(long_rows):
            self.assertEqual(first_alike(house, row), again.first_alike(house, row))
            self.assertEqual(next(alike_rows(house, row)), again.first_alike(house, row))

    def test_exchanged_at_each_place(self):
        for house, row in self.each(rows_of):
            known = dict(again.neighbours(house, row))
            for place in range(-2, len(row) + 2):
                if place in known:
                    self.assertEqual(exchanged(house, row, place), known[place])
                else:
                    self.wrong_number(place, exchanged, house, row, place)

    def test_whole_of_the_own_rows(self):
        for house, row in self.each(rows_of):
            self.assertEqual(whole(house, own_rows(house, row)), first_alike(house, row))

    def test_kinds_of_values(self):
        for house, row in self.each(lambda house: long_rows(house, 30)):
            parts = [past(house, row, house.hands[0]), first_alike(house, row), layers(house, row), layers(house, row)[0]]
            parts += list(own_rows(house, row).values()) + [own_row(house, row, house.hands[0]), next(alike_rows(house, row))]
            self.assertEqual({type(part) for part in parts}, {tuple})
            self.assertIs(type(own_rows(house, row)), dict)


class Alike(Case):
    def test_just_by_exchanges(self):
        for house in many_houses():
            rows = again.all_rows(house.deeds, 4 if len(house.deeds) < 4 else 2)
            for one in rows:
                wanted = again.alike(house, one)
                for other in rows:
                    self.assertIs(are_alike(house, one, other), other in wanted, (one, other))

    def test_just_by_equal_own_rows(self):
        for house in many_houses():
            for one in short_rows(house)[::7]:
                for other in short_rows(house)[::5]:
                    self.assertIs(are_alike(house, one, other), own_rows(house, one) == own_rows(house, other))

    def test_long_rows(self):
        for house in many_houses():
            for row in long_rows(house):
                other = again.first_alike(house, row)
                self.assertIs(are_alike(house, row, other), True)
                self.assertIs(are_alike(house, row, other[:-1]), False)
                self.assertIs(are_alike(house, row, other + other[:1]), False)

    def test_a_row_of_many_deeds(self):
        row = ("a", "c", "x", "a", "y", "c") * 2000
        self.assertEqual(len(past(line(), row, "p")), 11996)
        self.assertEqual(len(layers(line(), row)), 6001)
        self.assertIs(are_alike(line(), row, ("c", "a", "x", "y", "a", "c") * 2000), True)
        self.assertEqual(whole(line(), own_rows(line(), row)), first_alike(line(), row))


class Generator(Case):
    def test_a_generator(self):
        self.assertTrue(inspect.isgenerator(alike_rows(duo(), ("a",))))
        self.assertEqual(list(alike_rows(duo(), ())), [()])

    def test_long_rows_one_by_one(self):
        for house in many_houses():
            for row in long_rows(house):
                found = list(islice(alike_rows(house, row), 40))
                self.assertEqual(found, sorted(set(found)))
                self.assertTrue(all(own_rows(house, other) == own_rows(house, row) for other in found))

    def test_exchanges_at_the_end_of_a_long_row(self):
        head = ("m",) * 400
        for tail in again.all_rows(("a", "b"), 5):
            wanted = [head + other for other in again.alike(duo(), tail)]
            self.assertEqual(list(alike_rows(duo(), head + tail)), wanted)

    def test_exchanges_at_the_beginning_of_a_long_row(self):
        tail = ("x", "y") * 200
        for head in again.all_rows(("a", "c"), 4):
            wanted = again.alike(line(), head + ("x",))
            found = [row for row in alike_rows(line(), head + tail) if row[len(head) + 1:] == tail[1:]]
            self.assertEqual([row[:len(head) + 1] for row in found], wanted)

    def test_two_at_a_time(self):
        one, other = alike_rows(duo(), ("a", "b")), alike_rows(duo(), ("b", "a"))
        self.assertEqual([next(one), next(other), next(one), next(other)], [("a", "b"), ("a", "b"), ("b", "a"), ("b", "a")])
        self.assertEqual([list(one), list(other)], [[], []])

    def test_errors_when_the_first_row_is_requested(self):
        for call in ((None, ("a",)), (duo(), ("z",)), (duo(), ["a"]), (5, 5)):
            found = alike_rows(*call)
            self.caught(InvalidRow if isinstance(call[0], House) else InvalidHouse, next, found)

    def test_many_alike_rows(self):
        house = House(("a", "b", "c", "d", "e"), {hand: (hand,) for hand in "abcde"})
        found = list(alike_rows(house, tuple("edcbaeb")))
        self.assertEqual(len(found), 7 * 6 * 5 * 4 * 3 * 2 // 4)
        self.assertEqual(found, sorted(set(found)))


class Whole(Case):
    def pairs_in_common(self, house, rows):
        """The first link whose common deeds stand differently in both rows, or None."""
        for one, other in house.links:
            common = {deed for deed in house.deeds if house[deed] == (one, other)}
            kept = [[deed for deed in rows[hand] if deed in common] for hand in (one, other)]
            if kept[0] != kept[1]:
                return one, other
        return None

    def check_all(self, house, size, most):
        """All dicts of own rows of up to so many deeds, which are no more than so many deeds of the house in all."""
        known = defaultdict(list)
        for row in again.all_rows(house.deeds, most):
            known[tuple(again.own_rows(house, row).items())].append(row)
        choices = [again.all_rows(house.deeds_of(hand), size) for hand in house.hands]
        unmatched = 0
        for choice in product(*choices):
            rows = dict(zip(house.hands, choice))
            pair = self.pairs_in_common(house, rows)
            if pair is None:
                self.assertEqual(whole(house, rows), min(known[tuple(rows.items())]))
            else:
                unmatched += 1
                self.assertNotIn(tuple(rows.items()), known)
                self.assertEqual(self.caught(Unmatched, whole, house, rows).pair, pair)
        return unmatched

    def test_all_own_rows_of_two_hands(self):
        self.assertGreater(self.check_all(duo(), 3, 6), 100)

    def test_all_own_rows_of_three_hands(self):
        self.assertGreater(self.check_all(line(), 2, 6), 100)

    def test_all_own_rows_of_several_trees(self):
        self.assertGreater(self.check_all(groves(), 1, 4), 10)
        self.assertGreater(self.check_all(snake(), 1, 4), 10)

    def test_the_first_link_is_told(self):
        rows = {"p": ("x",), "q": ("y",), "r": ()}
        self.assertEqual(self.caught(Unmatched, whole, line(), rows).pair, ("p", "q"))
        rows = {"p": ("x", "a"), "q": ("x", "y"), "r": ()}
        self.assertEqual(self.caught(Unmatched, whole, line(), rows).pair, ("q", "r"))

    def test_as_often(self):
        self.caught(Unmatched, whole, duo(), {"l": ("m", "m"), "r": ("m",)})
        self.caught(Unmatched, whole, duo(), {"l": ("m",) * 400, "r": ("m",) * 401})
        self.assertEqual(whole(duo(), {"l": ("m",) * 400, "r": ("m",) * 400}), ("m",) * 400)

    def test_the_same_deeds_in_another_order(self):
        house = House(("k", "n"), {"e": ("k", "n"), "f": ("k", "n")})
        self.assertEqual(self.caught(Unmatched, whole, house, {"k": ("e", "f"), "n": ("f", "e")}).pair, ("k", "n"))

    def test_order_of_the_dict(self):
        self.assertEqual(whole(duo(), {"r": ("b", "m"), "l": ("m",)}), ("b", "m"))

    def test_no_own_rows(self):
        good = {"l": ("a", "m"), "r": ("m",)}
        for odd in odd_values() + [(), "l", (("l", ()), ("r", ())), {}, {"l": ()}, {"r": ()}]:
            self.caught(InvalidOperation, whole, duo(), odd)
        for key in ("m", "a", "", "L", True, 0, None, (), ("l",)):
            self.caught(InvalidOperation, whole, duo(), {**good, key: ()})
            self.caught(InvalidOperation, whole, duo(), {"l": ("a", "m"), key: ("m",)})
        for odd in odd_values() + ["m", ["m"], ("b",), ("r",), ("m", "z"), ("m", "b"), {}, []]:
            self.caught(InvalidOperation, whole, duo(), {**good, "l": odd})

    def test_ahead_of_unmatched(self):
        self.caught(InvalidOperation, whole, line(), {"p": ("x",), "q": (), "r": ("a",)})
        self.caught(InvalidOperation, whole, line(), {"p": ("x",), "q": (), "r": [()]})
        self.caught(InvalidHouse, whole, None, {"p": ("x",), "q": (), "r": ()})

    def test_passed_dict(self):
        rows = {"r": ("b", "m"), "l": ("m",)}
        whole(duo(), rows)
        self.assertEqual(list(rows.items()), [("r", ("b", "m")), ("l", ("m",))])


class Errors(Case):
    calls = {
        own_row: ((), "l"), own_rows: ((),), past: ((), "l"), are_alike: ((), ()), first_alike: ((),),
        layers: ((),), exchanged: (("a", "b"), 0), whole: ({"l": (), "r": ()},),
    }

    def test_house(self):
        for call, rest in self.calls.items():
            call(duo(), *rest)
            for odd in odd_values_but(House) + ["l", (), {}]:
                self.caught(InvalidHouse, call, odd, *rest)
                self.caught(InvalidHouse, call, odd, *[odd for _ in rest])
        for odd in odd_values_but(House):
            self.caught(InvalidHouse, next, alike_rows(odd, ()))

    def test_row(self):
        wrong = odd_values() + ["a", "m", ["a"], ("l",), ("a", "z"), ("a", ["b"]), (("a",),), {"a": 1}, {}, [], ("a", "A")]
        for call, rest in self.calls.items():
            if call is not whole:
                for odd in wrong + [(odd,) for odd in odd_values()] + [("a", odd, "b") for odd in odd_values()]:
                    self.caught(InvalidRow, call, duo(), odd, *rest[1:])
                    self.caught(InvalidRow, call, duo(), odd, *[odd for _ in rest[1:]])
        for odd in wrong:
            self.caught(InvalidRow, next, alike_rows(duo(), odd))
            self.caught(InvalidRow, are_alike, duo(), ("a",), odd)

    def test_deeds_of_another_house(self):
        for call, rest in self.calls.items():
            if call is not whole:
                self.caught(InvalidRow, call, duo(), ("a", "c"), *rest[1:])

    def test_hand(self):
        for odd in odd_values() + ["a", "m", "z", (), ("l",), {}]:
            for call in (own_row, past):
                self.unknown(odd, call, duo(), ("a",), odd)

    def test_place(self):
        wrong = [odd for odd in odd_values() if type(odd) is not int or odd != 1] + [2, 3, -3, "1", (1,), [1]]
        for odd in wrong:
            self.wrong_number(odd, exchanged, duo(), ("m", "a", "b", "m"), odd)
        for odd in odd_values():
            self.wrong_number(odd, exchanged, duo(), (), odd)
            self.wrong_number(odd, exchanged, duo(), ("a",), odd)
            self.wrong_number(odd, exchanged, duo(), ("a", "a"), odd)

    def test_no_argument_changes(self):
        rows = {"l": ["a"], "r": [("m",)]}
        self.caught(InvalidOperation, whole, duo(), rows)
        self.assertEqual(rows, {"l": ["a"], "r": [("m",)]})

    def test_returned_dicts_are_new(self):
        found = own_rows(crowd(), ("ac", "on"))
        found["a"] = ()
        self.assertEqual(own_rows(crowd(), ("ac", "on"))["a"], ("ac", "on"))
