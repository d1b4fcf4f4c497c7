"""[0.16], [0.18], stage 10: what the states of a hand tell of the wish behind the hand's past."""

from functools import cache

from eachshare.base.houses import House
from eachshare.errors import InvalidHouse, InvalidOperation, InvalidShare, InvalidWish, Unsteady
from eachshare.share.informed import is_informed, views
from eachshare.share.made import made
from eachshare.share.shares import Share
from eachshare.wish.wishes import Wish
from tests import again
from tests.samples import Case, calm, duo, even, first, groves, line, odd_share, odd_values_but, once, snake
from tests.samples import steady, turning
from tests.test_made import parts_of, swapped


@cache
def small():
    """Steady wishes whose made shares have few standings, with these shares."""
    found = [(house, wish, made(house, wish)) for house, wish in steady(1)]
    return [(house, wish, share) for house, wish, share in found if len(share.standings()) <= 100]


def seen(house, wish, share):
    """For each hand the tuple of the sets of the states behind the hand's past, for each of its states, by rows."""
    found = {hand: [set() for _ in range(size)] for hand, size in share.sizes.items()}
    met, waiting = set(), [()]
    while waiting:
        row = waiting.pop(0)
        states = again.local_states(house, share.sizes, share.tables, row)
        place = (tuple(states.values()), again.outlook(house, wish, row))
        if place not in met:
            met.add(place)
            waiting += [row + (deed,) for deed in house.deeds]
            for hand, state in states.items():
                found[hand][state].add(again.view_of(house, wish, row, hand))
    return found


def wanted(house, wish, share):
    """What views should return."""
    found = seen(house, wish, share)
    if any(len(one) > 1 for states in found.values() for one in states):
        return None
    return {hand: tuple(min(one, default=None) for one in states) for hand, states in found.items()}


def doubled(share, hand):
    """The same share with two states for each one of a hand: each deed of it changes from the first to the second."""
    house, (sizes, tables, folds, kept) = share.house, parts_of(share)
    many = sizes[hand]

    def states(own):
        """The old states and the halves for each new one of a hand."""
        return [(state, half) for half in (0, 1) for state in range(many)] if own == hand else [(s, 0) for s in range(sizes[own])]

    def new(own, state, half):
        return state + many * (1 - half) if own == hand else state

    made_tables = dict(tables)
    for deed in house.deeds_of(hand):
        if len(house[deed]) == 1:
            made_tables[deed] = tuple(new(hand, tables[deed][state], half) for state, half in states(hand))
        else:
            one, other = house[deed]
            made_tables[deed] = tuple(
                tuple(
                    (new(one, tables[deed][left][right][0], half), new(other, tables[deed][left][right][1], mate))
                    for right, mate in states(other)
                )
                for left, half in states(one)
            )
    made_folds = {}
    for lower, fold in folds.items():
        rows = list(fold) * 2 if lower == hand else list(fold)
        if again.hearer(house, lower) == hand:
            # When all have told, the halves do not matter any more.
            rows = [row + row for row in rows]
        made_folds[lower] = tuple(rows)
    if hand == house.hands[0]:
        kept += tuple(state + many for state in kept)
    return Share(house, {**sizes, hand: many * 2}, made_tables, made_folds, kept)


def counting(house, size):
    """A share in which hands count the deeds that they are the first to do, and tell their sums; wishes turn by them."""
    sizes = {hand: size for hand in house.hands}
    tables = {}
    for deed in house.deeds:
        if len(house[deed]) == 1:
            tables[deed] = tuple((state + 1) % size for state in range(size))
        else:
            tables[deed] = tuple(tuple(((one + 1) % size, other) for other in range(size)) for one in range(size))
    sums = tuple(tuple((one + other) % size for other in range(size)) for one in range(size))
    return Share(house, sizes, tables, {hand: sums for hand in house.hands[1:]}, (0,))


class Views(Case):
    def test_of_made_shares(self):
        for house, wish, share in small():
            found = views(house, wish, share)
            self.assertEqual(found, wanted(house, wish, share))
            self.assertEqual([type(found), tuple(found)], [dict, house.hands])
            self.assertEqual({type(states) for states in found.values()}, {tuple})
            self.assertEqual([len(states) for states in found.values()], list(share.sizes.values()))
            self.assertIs(is_informed(house, wish, share), True)

    def test_short_rows(self):
        for house, wish, share in small():
            found = views(house, wish, share)
            for row in again.all_rows(house.deeds, 3)[:150]:
                states = again.local_states(house, share.sizes, share.tables, row)
                for hand, state in states.items():
                    self.assertEqual(found[hand][state], again.view_of(house, wish, row, hand))

    def test_states_that_do_not_come_up(self):
        stay = tuple(tuple((one, other) for other in range(4)) for one in range(3))
        share = Share(
            duo(), {"l": 3, "r": 4}, {"a": (0, 1, 2), "b": (0, 1, 2, 3), "m": stay}, {"r": ((0, 1, 2),) * 4}, (0,)
        )
        every = Wish(("a", "b", "m"), ((0, 0, 0),), (0,))
        self.assertEqual(views(duo(), every, share), {"l": (0, None, None), "r": (0, None, None, None)})
        for house, wish, made_one in small()[::4]:
            for hand in house.hands:
                more = doubled(doubled(made_one, hand), hand) if made_one.sizes[hand] <= 16 else made_one
                self.assertEqual(views(house, wish, more), wanted(house, wish, more))

    def test_split_and_swapped(self):
        for house, wish, share in small()[::2]:
            for hand in house.hands:
                if share.sizes[hand] <= 32:
                    other = doubled(share, hand)
                    self.assertEqual(views(house, wish, other), wanted(house, wish, other))
                    self.assertIs(is_informed(house, wish, other), True)
                if share.sizes[hand] > 2:
                    other = swapped(share, hand, 1, share.sizes[hand] - 1)
                    states = list(views(house, wish, share)[hand])
                    states[1], states[-1] = states[-1], states[1]
                    self.assertEqual(views(house, wish, other), {**views(house, wish, share), hand: tuple(states)})

    def test_not_informed(self):
        for house in (duo(), line(), snake(), duo().given("m", "r"), House(("k", "n"), {"e": ("k", "n"), "f": ("k", "n")})):
            for size in (2, 3):
                wish, share = turning(house, size, {}), counting(house, size)
                if len(share.standings()) <= 20:
                    self.assertTrue(again.does(house, parts_of(share), wish))
                    self.assertEqual(views(house, wish, share), wanted(house, wish, share))
                self.assertIs(is_informed(house, wish, share), not house.links)
                self.assertIs(views(house, wish, share) is None, bool(house.links))
                self.assertIs(is_informed(house, wish, made(house, wish)), True)

    def test_one_state_of_one_hand_is_enough(self):
        # Each hand is in state 0 behind m alone, and behind m and one deed of the other one ahead of it.
        self.assertIs(views(duo(), ~even(), odd_share()), None)
        self.assertEqual(sorted(set(views(duo(), ~even(), made(duo(), ~even()))["r"]) - {None}), [0, 1])
        # l, which hears of b at m, tells it apart; r, whose deeds all count alike, does so only for what it needs.
        pairs = tuple(tuple(((one + other) % 2, 0) for other in range(2)) for one in range(2))
        share = Share(duo(), {"l": 2, "r": 2}, {"a": (1, 0), "b": (1, 0), "m": pairs}, {"r": ((0, 1), (1, 0))}, (1,))
        found = seen(duo(), ~even(), share)
        self.assertEqual([found["l"], found["r"]], [[{0}, {1}], [{0, 1}, {0, 1}]])
        self.assertIs(views(duo(), ~even(), share), None)

    def test_hands_by_themselves(self):
        house = House(("k", "l", "n"), {"a": ("k",), "b": ("l",)})
        wish = turning(house, 3, {})
        self.assertEqual(views(house, wish, counting(house, 3)), {"k": (0, 1, 2), "l": (0, 1, 2), "n": (0, None, None)})

    def test_shares_of_equal_houses(self):
        house = House(("l", "r"), {deed: duo()[deed] for deed in "mba"})
        self.assertEqual(views(house, once(), made(duo(), once())), views(duo(), once(), made(house, once())))


class Limits(Case):
    def test_pairs_of_standings_and_outlooks(self):
        house = duo()
        for size in (2, 3, 11):
            self.assertIs(views(house, turning(house, size, {}), counting(house, size)), None)
        # 12 ** 3 outlooks, and for each of them one of two hands can be in 12 states.
        self.too_many(20000, views, house, turning(house, 12, {}), counting(house, 12))
        self.too_many(20000, is_informed, house, turning(house, 12, {}), counting(house, 12))

    def alone(self, *sizes):
        hands = tuple("abcde"[:len(sizes)])
        house = House(hands, {hand: (hand,) for hand in hands})
        tables = {hand: tuple((state + 1) % size for state in range(size)) for hand, size in zip(hands, sizes)}
        folds = {hand: (tuple(range(sizes[0])),) * size for hand, size in zip(hands[1:], sizes[1:])}
        return Share(house, dict(zip(hands, sizes)), tables, folds, tuple(range(sizes[0])))

    def test_just_as_many_as_can_be_told(self):
        share = self.alone(32, 25, 25)
        every = Wish(share.house.deeds, ((0, 0, 0),), (0,))
        self.assertEqual(views(share.house, every, share), {"a": (0,) * 32, "b": (0,) * 25, "c": (0,) * 25})

    def test_pairs_of_states_and_standings_come_first(self):
        share = self.alone(33, 25, 25)
        every = Wish(share.house.deeds, ((0, 0, 0),), (0,))
        self.too_many(20000, views, share.house, every, share)
        # A share that does another wish is refused behind too many pairs of the first sort, ahead of the second sort.
        self.too_many(20000, views, share.house, ~every, share)
        wish = turning(duo(), 12, {})
        self.caught(InvalidOperation, views, duo(), ~wish, counting(duo(), 12))
        self.caught(InvalidOperation, is_informed, duo(), turning(duo(), 12, {"a": 3}), counting(duo(), 12))


class Errors(Case):
    calls = (views, is_informed)

    def test_kinds(self):
        for call in self.calls:
            for odd in odd_values_but(House):
                self.caught(InvalidHouse, call, odd, even(), odd_share())
                self.caught(InvalidHouse, call, odd, odd, odd)
            for odd in odd_values_but(Wish):
                self.caught(InvalidWish, call, duo(), odd, odd_share())
                self.caught(InvalidWish, call, line(), odd, odd)
            for odd in odd_values_but(Share):
                self.caught(InvalidShare, call, duo(), even(), odd)
                self.caught(InvalidShare, call, line(), even(), odd)
                self.caught(InvalidShare, call, duo(), first(), odd)

    def test_belongs_and_steady(self):
        other = made(line(), turning(line(), 2, {}))
        for call in self.calls:
            self.caught(InvalidOperation, call, line(), even(), odd_share())
            self.caught(InvalidOperation, call, line(), first(), odd_share())
            self.caught(Unsteady, call, duo(), first(), odd_share())
            self.caught(Unsteady, call, duo(), first(), other)
            self.caught(Unsteady, call, duo().given("m", "l"), once(), made(duo(), once()))

    def test_shares_of_other_houses(self):
        wide = Limits().alone(64, 64, 64)
        for call in self.calls:
            for share in (made(line(), turning(line(), 2, {})), made(groves(), turning(groves(), 2, {})), wide):
                self.caught(InvalidOperation, call, duo(), even(), share)
            self.caught(InvalidOperation, call, duo().renamed(hands={"r": "s"}), ~even(), odd_share())
            self.caught(InvalidOperation, call, duo().given("m", "l"), ~even(), odd_share())

    def test_shares_that_do_another_wish(self):
        for call in self.calls:
            for wish in (even(), once(), calm(), ~even() & ~calm()):
                self.caught(InvalidOperation, call, duo(), wish, odd_share())
        for house, wish, share in small()[::3]:
            self.caught(InvalidOperation, views, house, ~wish, share)
