"""[16.1], stage 16: rows of two wishes one behind the other, and what each hand wants of its own row."""

from itertools import combinations
from random import Random
from unittest.mock import patch

from eachshare.base.houses import House
from eachshare.errors import InvalidHouse, InvalidOperation, InvalidWish, TooMany, Unsteady
from eachshare.put import together as module
from eachshare.put.together import from_own, is_own_paper, own_paper, own_wishes, then_alike
from eachshare.share.steady import is_breach, is_steady
from eachshare.wish.wishes import Wish
from tests import again
from tests.samples import Case, calm, crowd, duo, even, falling, first, grid, groves, line, many_houses, odd_values
from tests.samples import odd_values_but, once, snake, steady, turning

SIZES = {3: 5, 4: 4, 5: 4, 8: 3}


def every(deeds):
    return Wish(deeds, ((0,) * len(deeds),), (0,))


def none(deeds):
    return Wish(deeds, ((0,) * len(deeds),), ())


def kept_at(wish, states):
    """The wish with the same machine and other kept states."""
    return Wish(wish.deeds, wish.targets, tuple(states))


def short_rows(house):
    return again.all_rows(house.deeds, SIZES.get(len(house.deeds), 5))


def is_split(house, one, other, row):
    """Whether the row is alike to a row of one wish and then a row of the other: by all cuts of the row."""
    return any(
        alike[:many] in one and alike[many:] in other for alike in again.alike(house, row) for many in range(len(row) + 1)
    )


def splits(house, one, other, rows):
    """The dict from rows to whether they are split so, where alike rows are split together."""
    found = {}
    for row in rows:
        if row not in found:
            answer = is_split(house, one, other, row)
            for alike in again.alike(house, row):
                found[alike] = answer
    return found


def by_subsets(house, one, other):
    """How many states the least machine of all such rows has, by each set of ends of all cuts of a row.

    A row leads to all triples of the states of both wishes behind its parts, and of the hands of the second part.
    """
    start = frozenset({(0, 0, frozenset())})
    numbers, waiting, targets = {start: 0}, [start], []
    for places in waiting:
        ends = []
        for deed in house.deeds:
            end = set()
            for state, mate, hands in places:
                end.add((state, other[mate, deed], hands | set(house[deed])))
                if not hands & set(house[deed]):
                    end.add((one[state, deed], mate, hands))
            end = frozenset(end)
            if end not in numbers:
                numbers[end] = len(waiting)
                waiting.append(end)
            ends.append(numbers[end])
        targets.append(ends)
        if len(waiting) > 3000:
            return None
    return merged(targets, [any(s in one.kept and m in other.kept for s, m, _ in places) for places in waiting])


def merged(targets, kept):
    """How many states a machine has when those with the same rows are made one."""
    classes = [int(mark) for mark in kept]
    while True:
        signs = [(classes[state], tuple(classes[end] for end in ends)) for state, ends in enumerate(targets)]
        numbers = {sign: number for number, sign in enumerate(dict.fromkeys(signs))}
        if len(numbers) == len(set(classes)):
            return len(numbers)
        classes = [numbers[sign] for sign in signs]


def drawn_pairs(rng, most=40):
    """Houses with two steady wishes whose numbers of states have no greater product."""
    pairs = {}
    for house, wish in steady(51, each=5, most=12) + [(house, wish) for house, wish, _ in falling()]:
        pairs.setdefault(str(house) + repr(house.deeds), (house, []))[1].append(wish)
    for house, wishes in pairs.values():
        for one in wishes + [every(house.deeds)]:
            other = rng.choice(wishes)
            if len(one) * len(other) <= most:
                yield house, one, other


class ThenAlike(Case):
    def check(self, house, one, other, rows):
        found = then_alike(house, one, other)
        self.assertEqual([type(found), found.deeds], [Wish, house.deeds])
        for row, answer in splits(house, one, other, rows).items():
            self.assertIs(row in found, answer, (house, one, other, row))
        self.assertIs(is_steady(house, found), True)
        return found

    def test_short_rows(self):
        rng = Random(1)
        sizes = []
        for house, one, other in drawn_pairs(rng):
            try:
                sizes.append(len(self.check(house, one, other, short_rows(house))))
            except TooMany:
                sizes.append(25)
        self.assertTrue({1, 2, 3, 4, 25} <= set(sizes), sorted(set(sizes)))
        self.assertGreater(len(sizes), 40)

    def test_longer_rows(self):
        rng = Random(2)
        for house, one, other in drawn_pairs(rng):
            try:
                self.check(house, one, other, [again.random_row(rng, house.deeds, 8) for _ in range(4)])
            except TooMany:
                pass

    def test_the_number_of_states(self):
        rng = Random(3)
        answers = []
        for house, one, other in drawn_pairs(rng):
            many = by_subsets(house, one, other)
            if many is not None and many <= 24:
                self.assertEqual(len(then_alike(house, one, other)), many)
            elif many is not None:
                self.too_many(24, then_alike, house, one, other)
            answers.append(many)
        self.assertGreater(len([many for many in answers if many]), 40)

    def test_rows_behind_one_another_are_not_steady(self):
        # a and then b, each of them steady, as all rows of one deed are.
        one, other = Wish.of_rows(("a", "b", "m"), (("a",),)), Wish.of_rows(("a", "b", "m"), (("b",),))
        self.assertIs(is_steady(duo(), Wish.of_rows(("a", "b", "m"), (("a", "b"),))), False)
        self.assertEqual(then_alike(duo(), one, other), Wish.of_rows(("a", "b", "m"), (("a", "b"), ("b", "a"))))
        self.assertEqual(then_alike(duo(), one, one), Wish.of_rows(("a", "b", "m"), (("a", "a"),)))
        both = Wish.of_rows(("a", "b", "m"), (("a", "m"),))
        self.assertEqual(then_alike(duo(), both, other), Wish.of_rows(("a", "b", "m"), (("a", "m", "b"),)))
        self.assertEqual(then_alike(duo(), other, both), Wish.of_rows(("a", "b", "m"), (("a", "b", "m"), ("b", "a", "m"))))

    def test_empty_rows_all_rows_and_no_rows(self):
        for house, wish in steady(52, each=2, most=6):
            deeds = house.deeds
            nothing = Wish.of_rows(deeds, ((),))
            self.assertEqual(then_alike(house, nothing, wish), wish)
            self.assertEqual(then_alike(house, wish, nothing), wish)
            self.assertEqual(then_alike(house, none(deeds), wish), none(deeds))
            self.assertEqual(then_alike(house, wish, none(deeds)), none(deeds))
            if () in wish:
                self.assertEqual(then_alike(house, every(deeds), wish), every(deeds))
                self.assertEqual(then_alike(house, wish, every(deeds)), every(deeds))

    def test_one_hand(self):
        # All rows are alike to themselves alone, so this is plainly one row behind the other.
        rng = Random(4)
        house = House(("h",), {deed: ("h",) for deed in "ab"})
        for _ in range(40):
            one, other = [Wish(*again.random_machine(rng, ("a", "b"), 4)) for _ in range(2)]
            try:
                found = then_alike(house, one, other)
            except TooMany:
                continue
            for row in again.all_rows(("a", "b"), 6):
                wanted = any(row[:many] in one and row[many:] in other for many in range(len(row) + 1))
                self.assertIs(row in found, wanted)

    def test_products(self):
        for one, other in ((2, 20), (20, 2), (4, 10), (5, 8), (8, 5), (10, 4)):
            first_one, second = turning(duo(), one, {"m": 0}), turning(duo(), other, {"m": 0})
            self.assertEqual(len(first_one) * len(second), 40)
            try:
                self.assertIs(is_steady(duo(), then_alike(duo(), first_one, second)), True)
            except TooMany as found:
                self.assertEqual(found.limit, 24)
        for one, other in ((3, 14), (14, 3), (2, 21), (24, 24), (7, 6), (41, 1), (1, 24), (24, 1)):
            if one * other > 40 and one <= 24:
                self.too_many(40, then_alike, duo(), turning(duo(), one, {}), turning(duo(), other, {}))

    def test_products_ahead_of_results(self):
        house = House(("l", "r"), {"a": ("l",), "b": ("r",)})
        longer = [Wish.of_rows(("a", "b"), ((deed,) * many,)) for deed, many in (("a", 3), ("b", 5), ("b", 7))]
        self.assertEqual([len(wish) for wish in longer], [5, 7, 9])
        self.too_many(24, then_alike, house, longer[0], longer[1])
        self.too_many(40, then_alike, house, longer[0], longer[2])

    def test_24_and_25_states(self):
        # Rows of so many a and so many b, in any order, need a state for each number of both, and one for all others.
        house = House(("l", "r"), {"a": ("l",), "b": ("r",)})
        for many, mates, wanted in ((1, 10, 23), (1, 11, 25), (2, 6, 22), (3, 4, 21), (3, 5, 25), (5, 3, 25), (4, 3, 21)):
            one, other = Wish.of_rows(("a", "b"), (("a",) * many,)), Wish.of_rows(("a", "b"), (("b",) * mates,))
            self.assertEqual((many + 1) * (mates + 1) + 1, wanted)
            if wanted <= 24:
                self.assertEqual(len(then_alike(house, one, other)), wanted)
            else:
                self.too_many(24, then_alike, house, one, other)
        one, other = Wish.of_rows(("a", "b"), (("a",) * 2,)), ~Wish.of_rows(("a", "b"), (("b",) * 8,))
        self.assertEqual([len(one), len(other)], [4, 10])
        self.too_many(24, then_alike, house, one, other)

    def test_just_24_and_just_25(self):
        # At least so many a and at least so many b, in any order.
        house = House(("l", "r"), {"a": ("l",), "b": ("r",)})
        for many, mates, wanted in ((3, 5, 24), (5, 3, 24), (7, 2, 24), (2, 7, 24), (4, 4, 25), (1, 11, 24), (11, 1, 24)):
            one, other = grid(house, {"a": many}), grid(house, {"b": mates})
            if wanted <= 24:
                found = then_alike(house, one, other)
                self.assertEqual(found, grid(house, {"a": many, "b": mates}))
                self.assertEqual(len(found), 24)
            else:
                self.too_many(24, then_alike, house, one, other)

    def test_sums_of_multiples(self):
        house = House(("h",), {"a": ("h",)})
        found = then_alike(house, turning(house, 3, {}), turning(house, 7, {}))
        self.assertEqual([size for size in range(40) if found.count(size) == 0], [1, 2, 4, 5, 8, 11])
        # Only lengths from 28 on are all sums of multiples of 5 and 8.
        self.too_many(24, then_alike, house, turning(house, 5, {}), turning(house, 8, {}))

    def test_hands_without_deeds_and_trees(self):
        house = House(("k", "l", "r"), {"a": ("l",), "b": ("r",), "m": ("l", "r")})
        for one in (even(), once(), calm()):
            for other in (even(), once(), calm()):
                self.assertEqual(then_alike(house, one, other), then_alike(duo(), one, other))
        for house in (groves(), snake(), crowd()):
            one, other = turning(house, 2, {}), turning(house, 3, {})
            self.check(house, one, other, again.all_rows(house.deeds, 3))

    def test_five_hands_and_many_sets(self):
        # Far more sets of ends come up here than can be gone through one by one.
        house = House(tuple("abcde"), {hand: (hand,) for hand in "abcde"})
        wide = House(tuple("abcde"), {**{hand: (hand,) for hand in "abcde"}, "ab": ("a", "b"), "bc": ("b", "c"), "cd": ("c", "d")})
        for place in (house, wide, crowd()):
            for one, other in ((2, 20), (8, 5), (10, 4), (13, 3)):
                for states in ((0,), (0, 3)):
                    wishes = kept_at(turning(place, one, {}), [state for state in states if state < one]), turning(place, other, {})
                    try:
                        found = then_alike(place, *wishes)
                    except TooMany as error:
                        self.assertEqual(error.limit, 24)
                        continue
                    rng = Random(5)
                    for row in [again.random_row(rng, place.deeds, rng.randint(0, 5)) for _ in range(5)]:
                        self.assertIs(row in found, is_split(place, *wishes, row))
            wish = kept_at(turning(place, 20, {}), range(0, 20, 3))
            self.assertEqual(then_alike(place, wish, every(place.deeds)), every(place.deeds))
            self.assertEqual(then_alike(place, every(place.deeds), wish), every(place.deeds))

    def test_sets_by_the_million(self):
        # Two hands by themselves split their deeds in all ways, and each way leads to other sets of ends.
        house = House(tuple("abcde"), {"s": ("c", "d"), "t": ("a", "e"), "u": ("d",), "v": ("a", "b")})
        wishes = kept_at(turning(house, 10, {"s": 0}), (1, 3, 4, 7, 8, 9)), kept_at(turning(house, 3, {"v": 2}), (0, 2))
        self.check_drawn_rows(house, *wishes, 11)
        house = House(tuple("abcd"), {"s": ("c", "d"), "t": ("a",), "u": ("d",), "v": ("a",), "w": ("c",), "x": ("a",), "y": ("b",)})
        one = kept_at(turning(house, 6, {deed: 0 for deed in "tuvwy"}), range(1, 6))
        other = kept_at(turning(house, 4, {"u": 0, "v": 2, "w": 3, "x": 3, "y": 0}), (0, 2, 3))
        self.check_drawn_rows(house, one, other, None)
        house = House(tuple("lr"), {"a": ("l",), "b": ("l",), "c": ("r",), "d": ("r",)})
        wishes = kept_at(turning(house, 20, {"b": 3, "d": 2}), range(0, 20, 2)), kept_at(turning(house, 2, {"c": 0}), (1,))
        self.check_drawn_rows(house, *wishes, None)

    def test_long_ends(self):
        # All rows and then ones of another wish, whose words are as long as it has states.
        house = House(tuple("abc"), {"s": ("b",), "t": ("b",), "u": ("c",), "v": ("a",), "w": ("a",)})
        for size, steps, states in ((24, {}, (0,)), (24, {"t": 0, "v": 0}, (1, 5)), (19, {"s": 2, "w": 5}, (3,)), (20, {"u": 0, "v": 3}, (7, 11))):
            for one in (every(house.deeds), turning(house, 2, {"u": 0})):
                if len(one) * size <= 40:
                    self.check_drawn_rows(house, one, kept_at(turning(house, size, steps), states), None)

    def check_drawn_rows(self, house, one, other, many):
        """The rows of both wishes are told rightly for some drawn rows, and by so many states, if this is known."""
        try:
            found = then_alike(house, one, other)
        except TooMany as error:
            self.assertEqual([error.limit, many], [24, None])
            return
        self.assertIn(many, (len(found), None))
        self.assertIs(is_steady(house, found), True)
        rng = Random(8)
        for _ in range(40):
            row = again.random_row(rng, house.deeds, rng.randint(0, 7))
            self.assertIs(row in found, is_split(house, one, other, row))

    def test_24_states_of_one_hand(self):
        rng = Random(6)
        house = House(("h",), {deed: ("h",) for deed in "abcdefgh"})
        for _ in range(20):
            drawn = [again.random_machine(rng, house.deeds, 24) for _ in range(30)]
            wishes = [wish for wish in [Wish(*machine) for machine in drawn] if len(wish) > 12]
            for wish in wishes[:3]:
                found = then_alike(house, every(house.deeds), wish) if () in wish else every(house.deeds)
                self.assertEqual(found, every(house.deeds))
                for other in (Wish.of_rows(house.deeds, ((),)),):
                    if len(wish) * 2 <= 40:
                        self.assertEqual(then_alike(house, other, wish), wish)

    def test_long_delays(self):
        # The deed a stands just so many places ahead of the end: the sets that come up double with each place.
        house = House(("h",), {"a": ("h",), "b": ("h",)})
        for many in (5, 20):
            tail = Wish(("a", "b"), ((1, many + 2),) + tuple((k + 2, k + 2) for k in range(many)) + ((many + 2,) * 2,) * 2, (many + 1,))
            self.assertEqual(len(tail), many + 3)
            self.too_many(24, then_alike, house, every(("a", "b")), tail)
        tail = Wish(("a", "b"), ((1, 4), (2, 2), (3, 3), (4, 4), (4, 4)), (3,))
        found = then_alike(house, every(("a", "b")), tail)
        self.assertEqual(len(found), 8)
        for row in again.all_rows(("a", "b"), 7):
            self.assertIs(row in found, row[-3:-2] == ("a",))

    def test_rows_of_rows_wishes(self):
        # Rows that are told one by one, put behind one another by hand.
        rng = Random(7)
        for house in many_houses():
            for _ in range(3):
                parts = [[again.random_row(rng, house.deeds, rng.randint(0, 2)) for _ in range(2)] for _ in range(2)]
                rows = [tuple({other for row in some for other in again.alike(house, row)}) for some in parts]
                wishes = [Wish.of_rows(house.deeds, some) for some in rows]
                if len(wishes[0]) * len(wishes[1]) <= 40:
                    wanted = {row for one in rows[0] for other in rows[1] for row in again.alike(house, one + other)}
                    self.assertEqual(then_alike(house, *wishes), Wish.of_rows(house.deeds, tuple(wanted)))


class OwnWishes(Case):
    def own_rows_of(self, house, wish, hand, size, longer):
        """The own rows of a hand with up to so many deeds, of rows of the wish with some more."""
        rows = [row for row in again.all_rows(house.deeds, longer) if again.end(wish.deeds, wish.targets, row) in wish.kept]
        return {again.own_row(house, row, hand) for row in rows if len(again.own_row(house, row, hand)) <= size}

    def hidden_rows(self, house, wish, hand, size):
        """The own rows of a hand with up to so many deeds: with any deeds of the others ahead of each deed, and last."""
        others = [deed for deed in house.deeds if hand not in house[deed]]
        found = {}
        for row in again.all_rows(house.deeds_of(hand), size):
            states = set(again.reached(wish, others, 0))
            for deed in row:
                states = {end for state in states for end in again.reached(wish, others, wish[state, deed])}
            found[row] = bool(states & set(wish.kept))
        return found

    def test_against_hidden_deeds(self):
        for house, wish in steady(53, each=3, most=8) + [(house, wish) for house, wish, _ in falling()]:
            found = own_wishes(house, wish)
            self.assertEqual(list(found), [hand for hand in house.hands if house.deeds_of(hand)])
            for hand, own in found.items():
                self.assertEqual([type(own), own.deeds], [Wish, house.deeds_of(hand)])
                for row, answer in self.hidden_rows(house, wish, hand, 4).items():
                    self.assertIs(row in own, answer)

    def test_all_short_rows(self):
        for wish in (calm(), once(), even(), grid(duo(), {"a": 1, "b": 1})):
            for hand, own in own_wishes(duo(), wish).items():
                for row in self.own_rows_of(duo(), wish, hand, 3, 6):
                    self.assertIn(row, own)
                for row in again.all_rows(own.deeds, 3):
                    self.assertIs(row in own, row in self.own_rows_of(duo(), wish, hand, 3, 6))

    def test_known(self):
        found = own_wishes(duo(), Wish.of_rows(("a", "b", "m"), (("a", "m", "b"), ("b", "a"), ("a", "b"))))
        self.assertEqual(found["l"], Wish.of_rows(("a", "m"), (("a", "m"), ("a",))))
        self.assertEqual(found["r"], Wish.of_rows(("b", "m"), (("m", "b"), ("b",))))
        self.assertEqual(own_wishes(duo(), even()), {"l": every(("a", "m")), "r": every(("b", "m"))})
        self.assertEqual(own_wishes(duo(), none(("a", "b", "m"))), {"l": none(("a", "m")), "r": none(("b", "m"))})

    def test_hands_without_deeds(self):
        house = House(("k", "l", "r"), {"a": ("l",), "b": ("r",), "m": ("l", "r")})
        for wish in (calm(), once(), even()):
            self.assertEqual(own_wishes(house, wish), own_wishes(duo(), wish))
            self.assertEqual(own_paper(house, wish), own_paper(duo(), wish))

    def test_one_hand_has_the_wish_itself(self):
        house = House(("l",), {deed: ("l",) for deed in "abm"})
        for wish in (calm(), once(), even(), first()):
            self.assertEqual(own_wishes(house, wish), {"l": wish})
            self.assertEqual(own_paper(house, wish), ("own",))

    def test_more_states_than_the_wish_has(self):
        house, wish = delayed(4)
        found = own_wishes(house, wish)
        self.assertEqual([len(wish), len(found["n"]), found["k"] == wish], [7, 16, True])
        for row in again.all_rows(("e", "f"), 7):
            self.assertIs(row in found["n"], row[-4:-3] == ("e",))

    def test_more_than_24(self):
        house, wish = delayed(5)
        self.assertEqual(len(wish), 8)
        self.too_many(24, own_wishes, house, wish)
        self.too_many(24, own_paper, house, wish)
        for value in (("own",), None, 0, ("shared", ()), [], ("shared", "x")):
            self.too_many(24, is_own_paper, house, wish, value)
        self.too_many(24, own_wishes, *delayed(20))

    def test_24_states(self):
        wish = turning(crowd(), 24, {})
        self.assertEqual(own_wishes(crowd(), wish), {hand: every(crowd().deeds_of(hand)) for hand in crowd().hands})
        house = House(("h", "k"), {"a": ("h",), "b": ("k",)})
        wish = grid(house, {"a": 23})
        self.assertEqual([len(own) for own in own_wishes(house, wish).values()], [24, 1])


class FromOwn(Case):
    def drawn(self, rng, house, most):
        """Wishes of some of the hands that have deeds."""
        found = {}
        for hand in house.hands:
            if house.deeds_of(hand) and rng.random() < 0.6:
                drawn = [Wish(*again.random_machine(rng, house.deeds_of(hand), most)) for _ in range(20)]
                found[hand] = ([wish for wish in drawn if len(wish) > 1] + drawn)[0]
        return found

    def count_states(self, house, wishes):
        """How many states the least machine has, by tuples of the states of all wishes; None for too many tuples."""
        start = (0,) * len(wishes)
        numbers, waiting, targets = {start: 0}, [start], []
        for place in waiting:
            ends = []
            for deed in house.deeds:
                parts = zip(wishes.items(), place)
                end = tuple(wish[state, deed] if hand in house[deed] else state for (hand, wish), state in parts)
                if end not in numbers:
                    numbers[end] = len(waiting)
                    waiting.append(end)
                ends.append(numbers[end])
            targets.append(ends)
            if len(waiting) > 3000:
                return None
        kept = [all(state in wish.kept for wish, state in zip(wishes.values(), place)) for place in waiting]
        return merged(targets, kept)

    def test_own_rows(self):
        rng = Random(11)
        sizes = []
        for house in many_houses() * 7:
            wishes = self.drawn(rng, house, rng.randint(1, 6))
            many = self.count_states(house, wishes)
            if many is None:
                continue
            sizes.append(many)
            if many > 24:
                self.too_many(24, from_own, house, wishes)
                continue
            found = from_own(house, wishes)
            self.assertEqual([type(found), found.deeds, len(found)], [Wish, house.deeds, many])
            self.assertIs(is_steady(house, found), True)
            for row in short_rows(house)[:800]:
                wanted = all(again.own_row(house, row, hand) in wish for hand, wish in wishes.items())
                self.assertIs(row in found, wanted)
        self.assertTrue(max(sizes) > 24 and len(set(sizes)) > 5, sizes)

    def test_no_hands(self):
        for house in many_houses():
            self.assertEqual(from_own(house, {}), every(house.deeds))

    def test_one_hand(self):
        self.assertEqual(from_own(duo(), {"l": none(("a", "m"))}), none(("a", "b", "m")))
        found = from_own(duo(), {"r": Wish.of_rows(("b", "m"), (("m",),))})
        for row in short_rows(duo()):
            self.assertIs(row in found, row.count("m") == 1 and "b" not in row)

    def test_order_of_keys(self):
        wishes = {"l": turning(House(("l",), {"a": ("l",), "m": ("l",)}), 3, {}), "r": Wish.of_rows(("b", "m"), ((), ("m",)))}
        self.assertEqual(from_own(duo(), wishes), from_own(duo(), dict(list(wishes.items())[::-1])))
        self.assertEqual(list(wishes), ["l", "r"])

    def test_no_row_of_all(self):
        # Each of both has rows, but they never agree on the deeds m.
        one = Wish(("a", "m"), ((0, 1), (1, 0)), (0,))
        other = Wish(("b", "m"), ((0, 1), (1, 0)), (1,))
        self.assertEqual(from_own(duo(), {"l": one, "r": other}), none(("a", "b", "m")))
        self.assertEqual(len(from_own(duo(), {"l": one, "r": ~other})), 2)

    def test_many_states(self):
        house = House(tuple("abcde"), {hand: (hand,) for hand in "abcde"})
        for size in (2, 3, 24):
            wishes = {hand: turning(House((hand,), {hand: (hand,)}), size, {}) for hand in house.hands}
            self.too_many(24, from_own, house, wishes)
            self.too_many(24, from_own, crowd(), {
                hand: turning(House((hand,), {deed: (hand,) for deed in crowd().deeds_of(hand)}), size, {}) for hand in crowd().hands
            })
        wishes = {"a": turning(House(("a",), {"a": ("a",)}), 4, {}), "b": turning(House(("b",), {"b": ("b",)}), 6, {})}
        self.assertEqual(len(from_own(house, wishes)), 24)
        wishes["b"] = turning(House(("b",), {"b": ("b",)}), 7, {})
        self.too_many(24, from_own, house, wishes)
        self.assertEqual(from_own(house, {**wishes, "c": none(("c",))}), none(house.deeds))

    def test_the_least_own_wish(self):
        answers = []
        for house, wish in steady(54, each=3, most=6) + [(house, wish) for house, wish, _ in falling()]:
            try:
                found = from_own(house, own_wishes(house, wish))
            except TooMany:
                continue
            self.assertFalse(wish - found)
            self.assertIs(is_steady(house, found), True)
            self.assertEqual(own_paper(house, found), ("own",))
            answers.append(own_paper(house, wish) == ("own",))
            self.assertIs(found == wish, answers[-1])
            own = own_wishes(house, wish)
            for row in short_rows(house)[:300]:
                self.assertIs(row in found, all(again.own_row(house, row, hand) in own[hand] for hand in own))
        self.assertTrue(3 < sum(answers) < len(answers) - 3, answers)


class Papers(Case):
    def shared_rows(self, house, wish, rows):
        own = own_wishes(house, wish)
        return [row for row in rows if row not in wish and all(again.own_row(house, row, hand) in own[hand] for hand in own)]

    def test_of_each_wish(self):
        answers = []
        for house, wish in steady(55, each=4, most=8) + [(house, wish) for house, wish, _ in falling()]:
            found = own_paper(house, wish)
            self.assertIs(is_own_paper(house, wish, found), True)
            rows = short_rows(house)
            shared = self.shared_rows(house, wish, rows)
            if found == ("own",):
                self.assertEqual(shared, [])
            else:
                self.assertEqual([type(found), len(found), found[0], type(found[1])], [tuple, 2, "shared", tuple])
                self.assertEqual(self.shared_rows(house, wish, [found[1]]), [found[1]])
                self.assertIs(is_own_paper(house, wish, ("own",)), False)
            for row in rows[:60]:
                self.assertIs(is_own_paper(house, wish, ("shared", row)), row in shared)
            answers.append(found[0])
        self.assertTrue({"own", "shared"} == set(answers))

    def test_not_each_steady_wish_is_own(self):
        self.assertEqual(own_paper(duo(), even())[0], "shared")
        self.assertIs(is_own_paper(duo(), even(), ("shared", ("a",))), True)
        self.assertIs(is_own_paper(duo(), even(), ("shared", ("a", "b"))), False)
        self.assertEqual(own_paper(duo(), from_own(duo(), own_wishes(duo(), even()))), ("own",))
        self.assertEqual(own_paper(duo(), none(("a", "b", "m"))), ("own",))

    def test_long_rows(self):
        row = ("a", "m", "b", "m") * 4000
        self.assertIs(is_own_paper(duo(), even(), ("shared", row)), False)
        self.assertIs(is_own_paper(duo(), even(), ("shared", row + ("b",))), True)

    def test_other_forms(self):
        values = [("own",), ["own"], "own", ("own", ()), (("own",),), ("shared",), {"own": 0}, (), ("shared", ["a"]), ("shared", "a")]
        values += [("shared", ("a",), 0), ["shared", ("a",)], ("shared", ("z",)), ("own", ("a",)), ("", ("a",)), (("a",), "shared")]
        for odd in values + odd_values() + [(odd,) for odd in odd_values()] + [("shared", odd) for odd in odd_values()]:
            self.assertIs(is_own_paper(duo(), even(), odd), False)
            self.assertIs(is_own_paper(duo(), every(("a", "b", "m")), odd), type(odd) is tuple and odd == ("own",))
        for odd in odd_values():
            self.assertIs(is_own_paper(duo(), even(), (odd, ("a",))), False)
            self.assertIs(is_own_paper(duo(), even(), ("shared", ("a", odd, "a"))), odd in ("a", "b"))

    def tuples(self, house, wish):
        """All tuples of a state of each own wish and one of the wish that come up."""
        own = own_wishes(house, wish)
        met, waiting = {(0,) * (len(own) + 1)}, [(0,) * (len(own) + 1)]
        while waiting:
            place = waiting.pop()
            for deed in house.deeds:
                parts = [own[hand][state, deed] if hand in house[deed] else state for hand, state in zip(own, place)]
                end = tuple(parts) + (wish[place[-1], deed],)
                if end not in met:
                    met.add(end)
                    waiting.append(end)
        return len(met)

    def test_20000_tuples(self):
        house, wish = lonely(2)
        self.assertTrue(18000 < self.tuples(house, wish) <= 20000)
        # The hand that does all deeds has this wish as its own one.
        found = own_paper(house, wish)
        self.assertEqual(found, ("own",))
        self.assertIs(is_own_paper(house, wish, found), True)
        house, wish = lonely(3)
        self.assertTrue(20000 < self.tuples(house, wish))
        self.too_many(20000, own_paper, house, wish)
        for value in (found, None, ("shared", ())):
            self.too_many(20000, is_own_paper, house, wish, value)
        self.assertEqual(len(own_wishes(house, wish)), 5)

    def test_just_the_limit(self):
        self.assertEqual(module.MAX_TUPLES, 20000)
        for wish in (calm(), once(), even()):
            many = self.tuples(duo(), wish)
            with patch.object(module, "MAX_TUPLES", many):
                self.assertEqual(own_paper(duo(), wish)[0], "shared")
            with patch.object(module, "MAX_TUPLES", many - 1):
                self.too_many(many - 1, own_paper, duo(), wish)
                self.too_many(many - 1, is_own_paper, duo(), wish, None)


class Errors(Case):
    calls = ((own_wishes, ()), (own_paper, ()), (is_own_paper, (None,)))

    def test_house(self):
        for odd in odd_values_but(House):
            self.caught(InvalidHouse, then_alike, odd, calm(), even())
            self.caught(InvalidHouse, then_alike, odd, odd, odd)
            self.caught(InvalidHouse, from_own, odd, {})
            self.caught(InvalidHouse, from_own, odd, odd)
            for call, more in self.calls:
                self.caught(InvalidHouse, call, odd, calm(), *more)
                self.caught(InvalidHouse, call, odd, odd, *more)

    def test_wish(self):
        for odd in odd_values_but(Wish):
            self.caught(InvalidWish, then_alike, duo(), odd, even())
            self.caught(InvalidWish, then_alike, duo(), even(), odd)
            self.caught(InvalidWish, then_alike, line(), even(), odd)
            self.caught(InvalidWish, then_alike, duo(), first(), odd)
            self.caught(InvalidWish, then_alike, duo(), odd, odd)
            for call, more in self.calls:
                self.caught(InvalidWish, call, duo(), odd, *more)

    def test_dicts_of_wishes(self):
        own = own_wishes(duo(), calm())
        values = [[], (), "l", {"z": own["l"]}, {"a": own["l"]}, {"l": own["r"]}, {**own, "r": own["l"]}, {**own, "z": own["l"]}]
        values += [{"l": calm()}, {("l",): own["l"]}, {1: own["l"]}, {"l": None}, {"l": duo()}, {"l": ("a", "m")}, {"L": own["l"]}]
        values += [{"l": own["l"].renamed({"a": "c"})}, {"l": every(("a",))}, list(own.items()), tuple(own.items())]
        for odd in values + [odd for odd in odd_values() if odd != {}]:
            self.caught(InvalidOperation, from_own, duo(), odd)
        for odd in odd_values():
            self.caught(InvalidOperation, from_own, duo(), {**own, "r": odd})
        house = House(("k", "l", "r"), {"a": ("l",), "b": ("r",), "m": ("l", "r")})
        self.assertEqual(from_own(house, own), from_own(duo(), own))
        self.caught(InvalidOperation, from_own, house, {**own, "k": every(("a",))})
        self.caught(InvalidOperation, from_own, house, {"k": None})

    def test_belongs(self):
        for one, other in ((calm(), even()), (first(), even()), (even(), first())):
            self.caught(InvalidOperation, then_alike, line(), one, other)
            self.caught(InvalidOperation, then_alike, duo(), one, turning(line(), 2, {}))
            self.caught(InvalidOperation, then_alike, duo(), turning(line(), 24, {}), other)
        for call, more in self.calls:
            for wish in (calm(), first()):
                self.caught(InvalidOperation, call, line(), wish, *more)
                self.caught(InvalidOperation, call, duo().with_deed("c", ("l",)), wish, *more)

    def test_steady(self):
        ahead = Wish(("a", "b", "m"), ((1, 2, 0), (1, 1, 1), (2, 2, 2)), (0, 2))
        for one, other, wrong in ((first(), even(), first()), (even(), first(), first()), (first(), ahead, first()), (ahead, first(), ahead)):
            found = self.caught(Unsteady, then_alike, duo(), one, other).breach
            self.assertIs(is_breach(duo(), wrong, found), True)
        # first() and ahead differ in kept states, so breaches of both are told apart here.
        self.caught(Unsteady, then_alike, duo(), turning(duo(), 24, {}), first())
        self.caught(Unsteady, then_alike, duo(), first(), turning(duo(), 24, {}))
        for call, more in self.calls:
            found = self.caught(Unsteady, call, duo(), first(), *more).breach
            self.assertIs(is_breach(duo(), first(), found), True)
            self.caught(Unsteady, call, duo().given("m", "r"), once(), *more)

    def test_whatever_the_value_is(self):
        for odd in odd_values():
            self.caught(InvalidOperation, is_own_paper, line(), calm(), odd)
            self.caught(Unsteady, is_own_paper, duo(), first(), odd)

    def test_no_shared_state(self):
        own = own_wishes(duo(), calm())
        found = from_own(duo(), own)
        own.clear()
        self.assertEqual(from_own(duo(), own_wishes(duo(), calm())), found)

    def test_pairs_of_hands(self):
        # What r may not see is not in its own wish, whichever hands there are.
        for house in (duo(), House(("k", "l", "r"), {"a": ("l",), "b": ("r",), "m": ("l", "r")})):
            for some in combinations(("l", "r"), 1):
                own = own_wishes(house, Wish.of_rows(("a", "b", "m"), (("a", "b"), ("b", "a"))))
                wish = from_own(house, {hand: own[hand] for hand in some})
                self.assertEqual(("b", "a", "a") in wish, "l" not in some)


def delayed(many):
    """A house in which one hand does all deeds, and a wish whose rows have an e so many places ahead of the end.

    The deed g, which the other hand does not see, stands right ahead of this e and nowhere else.
    """
    house = House(("k", "n"), {"e": ("k", "n"), "f": ("k", "n"), "g": ("k",)})
    lost = many + 2
    ends = [(0, 0, 1), (2, lost, lost)] + [(state + 1, state + 1, lost) for state in range(2, many + 1)] + [(lost,) * 3] * 2
    return house, Wish(("e", "f", "g"), tuple(ends), (many + 1,))


def lonely(many):
    """A wish whose rows are deeds of one of four hands alone, three of which have rows as above; the last one has so many deeds.

    Once two hands have done something, the wish is lost, and the own wishes can be in states of all kinds.
    """
    deeds = {f"{sign}{hand}": ("k", hand) for hand in ("na", "nb", "nc") for sign in "ef"}
    house = House(("k", "na", "nb", "nc", "nd"), {**deeds, "g": ("k",), "end": ("k", "nd")})
    lost = 18 + many + 1
    table = [{deed: lost for deed in house.deeds} for _ in range(lost + 1)]
    for number, hand in enumerate(("na", "nb", "nc")):
        e, f, begun = f"e{hand}", f"f{hand}", 1 + 6 * number
        table[0][e] = table[0][f] = table[begun][e] = table[begun][f] = begun
        table[begun]["g"] = begun + 1
        table[begun + 1][e] = begun + 2
        for state in range(begun + 2, begun + 5):
            table[state][e] = table[state][f] = state + 1
    for state in range(many):
        table[18 + state if state else 0]["end"] = 18 + state + 1
    ends = tuple(tuple(row[deed] for deed in house.deeds) for row in table)
    return house, Wish(house.deeds, ends, (6, 12, 18, 18 + many))
