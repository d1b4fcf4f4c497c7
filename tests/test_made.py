"""[0.14] to [0.16], [0.18], stage 8: shares that are made, and papers of shares or breaches."""

from random import Random

from eachshare.base.houses import House
from eachshare.errors import InvalidHouse, InvalidOperation, InvalidWish, TooMany, Unsteady
from eachshare.share import made as module
from eachshare.share.made import is_paper, made, paper
from eachshare.share.shares import Share
from eachshare.share.steady import is_breach, is_steady
from eachshare.wish.wishes import Wish
from tests import again
from tests.samples import Case, calm, crowd, duo, even, first, groves, grid, line, many_houses, odd_share, odd_values
from tests.samples import odd_values_but, once, snake, steady, turning


def short_rows(house):
    return again.all_rows(house.deeds, 5 if len(house.deeds) < 4 else 4 if len(house.deeds) < 6 else 2)


def parts_of(share):
    return share.sizes, share.tables, share.folds, share.kept


def tops(house):
    return [hand for hand in house.hands if house.above(hand) is None]


def seen_views(house, wish, parts, rows):
    """For each hand the dict from its states to the states of the wish behind the hand's past, as far as rows show."""
    found = {hand: {} for hand in house.hands}
    for row in rows:
        states = again.local_states(house, *parts[:2], row)
        for hand, state in states.items():
            found[hand].setdefault(state, set()).add(again.view_of(house, wish, row, hand))
    return found


def unsteady():
    """Houses and wishes that are not steady for them."""
    rng = Random(1)
    found = []
    for house in many_houses():
        while house.apart and len([one for one, _ in found if one == house]) < 4:
            wish = Wish(*again.random_machine(rng, house.deeds, 5))
            if not is_steady(house, wish):
                found.append((house, wish))
    return found


def swapped(share, hand, one, other):
    """The same share with two states of a hand under each other's numbers, neither of which is 0."""
    def number(state):
        return {one: other, other: one}.get(state, state)

    house, (sizes, tables, folds, kept) = share.house, parts_of(share)
    new = dict(tables)
    for deed in house.deeds_of(hand):
        if len(house[deed]) == 1:
            new[deed] = tuple(number(tables[deed][number(state)]) for state in range(sizes[hand]))
        else:
            low, high = house[deed]
            new[deed] = tuple(
                tuple(
                    tuple(number(state) if own == hand else state for own, state in zip((low, high), pair))
                    for pair in [
                        tables[deed][number(left) if low == hand else left][number(right) if high == hand else right]
                        for right in range(sizes[high])
                    ]
                )
                for left in range(sizes[low])
            )
    turned = dict(folds)
    for lower, fold in folds.items():
        rows = [fold[number(state)] for state in range(len(fold))] if lower == hand else list(fold)
        if again.hearer(house, lower) == hand:
            rows = [tuple(number(row[number(state)]) for state in range(len(row))) for row in rows]
        turned[lower] = tuple(rows)
    ends = tuple(sorted(number(state) for state in kept)) if hand == house.hands[0] else kept
    return Share(house, sizes, new, turned, ends)


class Made(Case):
    def test_each_short_row(self):
        for house, wish in steady(1):
            share = made(house, wish)
            for row in short_rows(house):
                self.assertIs(row in share, row in wish, (house, wish, row))

    def test_all_that_comes_up(self):
        for house, wish in steady(2):
            self.assertTrue(again.does(house, parts_of(made(house, wish)), wish))

    def test_long_rows_step_by_step(self):
        rng = Random(3)
        for house, wish in steady(3)[::2]:
            share = made(house, wish)
            row = again.random_row(rng, house.deeds, 300)
            standing, state = share.first, 0
            for deed in row:
                standing = share.step(standing, deed)
                state = wish[state, deed]
                self.assertIs(share.told(standing) in share.kept, state in wish.kept)
            self.assertEqual([standing, row in share], [share.after(row), row in wish])

    def test_of_an_equal_house(self):
        for house, wish in steady(1)[::3]:
            share = made(house, wish)
            self.assertEqual([type(share), share.house], [Share, house])

    def test_sizes(self):
        for house, wish in steady(4):
            share, many = made(house, wish), len(wish)
            for hand in house.hands:
                self.assertLessEqual(share.sizes[hand], many if hand in tops(house) else many * many)

    def test_informed(self):
        for house, wish in steady(5):
            found = seen_views(house, wish, parts_of(made(house, wish)), short_rows(house))
            for states in found.values():
                self.assertEqual({len(views) for views in states.values()}, {1})

    def test_informed_by_longer_rows(self):
        rng = Random(6)
        for house, wish in steady(5)[::2]:
            rows = [again.random_row(rng, house.deeds, rng.randint(5, 15)) for _ in range(60)]
            for states in seen_views(house, wish, parts_of(made(house, wish)), rows).values():
                self.assertEqual({len(views) for views in states.values()}, {1})

    def test_eight_states(self):
        wishes = [turning(duo(), 8, {"b": 3}), turning(duo(), 8, {"a": 5, "m": 0})]
        for wish in wishes + [grid(duo(), {"a": 3, "b": 1})]:
            self.assertEqual(len(wish), 8)
            self.assertTrue(again.does(duo(), parts_of(made(duo(), wish)), wish))
        for house in (crowd(), snake(), groves(), line()):
            wish = turning(house, 8, {house.deeds[1]: 2, house.deeds[-1]: 0})
            share = made(house, wish)
            rng = Random(7)
            for size in (1, 2, 5, 20, 100):
                row = again.random_row(rng, house.deeds, size)
                self.assertIs(row in share, row in wish)
                self.assertIs(row + (house.deeds[0],) * 5 in share, row + (house.deeds[0],) * 5 in wish)

    def test_more_states(self):
        for many in (9, 12, 24):
            wish = turning(duo(), many, {})
            self.assertEqual(len(wish), many)
            self.too_many(8, made, duo(), wish)
            self.too_many(8, paper, duo(), wish)
        self.assertEqual(module.MAX_SHARED, 8)

    def test_other_trees_tell_to_the_first_hand(self):
        # All five hands alone: only together they know how many deeds there are.
        house = House(("a", "b", "c", "d", "e"), {hand: (hand,) for hand in "abcde"})
        wish = turning(house, 3, {"b": 2})
        share = made(house, wish)
        self.assertTrue(again.does(house, parts_of(share), wish))
        self.assertEqual(share.sizes, {hand: 3 for hand in "abcde"})

    def test_a_first_hand_without_deeds(self):
        house = House(("a", "b", "c"), {"u": ("b", "c"), "v": ("b",), "w": ("c",)})
        wish = turning(house, 5, {"u": 2, "w": 3})
        self.assertTrue(again.does(house, parts_of(made(house, wish)), wish))

    def test_no_rows_and_all(self):
        for house in many_houses():
            for kept in ((), (0,)):
                share = made(house, Wish(house.deeds, ((0,) * len(house.deeds),), kept))
                self.assertEqual([share.sizes, share.kept], [{hand: 1 for hand in house.hands}, kept])

    def test_equal_calls(self):
        for house, wish in steady(1)[::5]:
            self.assertEqual(made(house, wish), made(house, wish))


class Statements(Case):
    def test_not_each_share_is_informed(self):
        # The two hands of this share never look at each other's notes when they meet.
        found = seen_views(duo(), ~even(), parts_of(odd_share()), short_rows(duo()))
        self.assertTrue(again.does(duo(), parts_of(odd_share()), ~even()))
        self.assertEqual(max(len(views) for states in found.values() for views in states.values()), 2)

    def test_the_share_with_the_fewest_states_is_none_such(self):
        # Four states do it, and made, which must tell more, has more.
        self.assertEqual(len(odd_share()), 4)
        self.assertGreater(len(made(duo(), ~even())), 4)
        # With fewer, one hand has one state, and its own deed, which changes what is kept, changes nothing.

    def test_what_is_made_of_steady_wishes_has_shares(self):
        for house, wish in steady(8)[::3]:
            self.assertTrue(again.does(house, parts_of(made(house, ~wish)), ~wish))
            self.assertTrue(again.does(house, parts_of(made(house, wish & ~wish)), wish & ~wish))
        for one, other in ((even(), once()), (even(), calm()), (once(), calm())):
            for wish in (one & other, one | other, one - other, one.turned(), other.turned()):
                if len(wish) <= 8:
                    self.assertTrue(again.does(duo(), parts_of(made(duo(), wish)), wish))


class Papers(Case):
    def test_of_steady_wishes(self):
        for house, wish in steady(9)[::2]:
            found = paper(house, wish)
            self.assertEqual([type(found), len(found), found[0], type(found[1])], [tuple, 2, "share", Share])
            self.assertTrue(again.does(house, parts_of(found[1]), wish))
            self.assertIs(is_paper(house, wish, found), True)
            for hand in house.hands:
                many = len(wish)
                self.assertLessEqual(found[1].sizes[hand], many if hand in tops(house) else many * many)
            views = seen_views(house, wish, parts_of(found[1]), again.all_rows(house.deeds, 3)[:300])
            self.assertEqual({len(one) for states in views.values() for one in states.values()}, {1})

    def test_of_other_wishes(self):
        for house, wish in unsteady():
            found = paper(house, wish)
            self.assertEqual([type(found), len(found), found[0]], [tuple, 3, "breach"])
            self.assertIs(is_breach(house, wish, found[1:]), True)
            self.assertIs(is_paper(house, wish, found), True)

    def test_other_wishes_can_have_many_states(self):
        rng = Random(10)
        targets = tuple(tuple(rng.randrange(24) for _ in range(3)) for _ in range(24))
        wish = Wish(duo().deeds, targets, (3, 7, 8, 20))
        self.assertEqual([len(wish), paper(duo(), wish)[0]], [22, "breach"])

    def test_exactly_one_form(self):
        for house, wish in steady(9)[::3]:
            for row in short_rows(house)[:200]:
                for place in range(len(row)):
                    self.assertIs(is_paper(house, wish, ("breach", row, place)), False)
        for house, wish in unsteady():
            for other in [made(house, other) for same, other in steady(9) if same == house]:
                self.assertIs(is_paper(house, wish, ("share", other)), False)

    def test_breaches(self):
        for house, wish in unsteady():
            known = set(again.breaches(house, wish, 3))
            for row in again.all_rows(house.deeds, 3)[:400]:
                for place in range(-1, 3):
                    self.assertIs(is_paper(house, wish, ("breach", row, place)), (row, place) in known)

    def test_any_share_that_does_it(self):
        self.assertIs(is_paper(duo(), ~even(), ("share", odd_share())), True)
        self.assertIs(is_paper(duo(), even(), ("share", odd_share())), False)
        for house, wish in steady(9)[::4]:
            share = made(house, wish)
            for hand in house.hands:
                for one in range(1, share.sizes[hand] - 1):
                    other = swapped(share, hand, one, one + 1)
                    self.assertIs(is_paper(house, wish, ("share", other)), True)

    def test_shares_bent_at_one_place(self):
        rng = Random(11)
        answers = []
        for house, wish in steady(9)[::2]:
            share = made(house, wish)
            for _ in range(12):
                parts = bent(rng, house, parts_of(share))
                answers.append(again.does(house, parts, wish))
                self.assertIs(is_paper(house, wish, ("share", Share(house, *parts))), answers[-1])
        self.assertTrue(20 < sum(answers) < len(answers) - 20)

    def test_shares_of_other_houses(self):
        share = made(duo(), even())
        other = duo().renamed(hands={"r": "s"})
        self.assertIs(is_paper(other, even(), ("share", share)), False)
        self.assertIs(is_paper(other, even(), ("share", made(other, even()))), True)
        given = duo().given("m", "l")
        self.assertIs(is_paper(given, even(), ("share", share)), False)
        self.assertIs(is_paper(duo(), even(), ("share", made(given, even()))), False)
        self.assertIs(is_paper(line(), turning(line(), 2, {}), ("share", share)), False)
        self.assertIs(is_paper(House(("l", "r"), {**{deed: duo()[deed] for deed in "mba"}}), even(), ("share", share)), True)

    def test_true_is_no_place(self):
        self.assertIs(is_paper(duo(), first(), ("breach", ("m", "b", "a"), 1)), True)
        self.assertIs(is_paper(duo(), first(), ("breach", ("m", "b", "a"), True)), False)
        self.assertIs(is_paper(duo(), first(), ("breach", ("b", "a"), False)), False)

    def test_other_forms(self):
        share, row = made(duo(), even()), ("b", "a")
        values = [["share", share], ("share",), ("share", share, 0), ("share", (share,)), ("share", [share]), share]
        values += [("Share", share), ("breach", share), (share, "share"), ("same", share), {"share": share}, ("", share)]
        for odd in values + odd_values() + [("share", odd) for odd in odd_values_but(Share)]:
            self.assertIs(is_paper(duo(), even(), odd), False)
            self.assertIs(is_paper(duo(), first(), odd), False)
        for odd in odd_values():
            self.assertIs(is_paper(duo(), even(), (odd, share)), False)
            self.assertIs(is_paper(duo(), first(), (odd, row, 0)), False)
            self.assertIs(is_paper(duo(), first(), ("breach", odd, 0)), False)
            self.assertIs(is_paper(duo(), first(), ("breach", row, odd)), type(odd) is int and odd == 0)
        for odd in (["breach", row, 0], ("breach", list(row), 0), ("breach", row), ("breach", row, 0, 0), (row, 0)):
            self.assertIs(is_paper(duo(), first(), odd), False)
        for odd in (("breach", (row, 0)), ("share", row, 0), ("breach", row, 1), ("breach", ("b", "z"), 0), ("breach",)):
            self.assertIs(is_paper(duo(), first(), odd), False)

    def test_long_breaches(self):
        row = ("m",) * 3000 + ("b", "a") + ("a", "b", "m") * 3000
        self.assertIs(is_paper(duo(), first(), ("breach", row, 3000)), True)
        self.assertIs(is_paper(duo(), first(), ("breach", row, 3001)), False)


def bent(rng, house, parts):
    """The parts of a share with one state of one table, fold or the kept ones replaced."""
    sizes, tables, folds, kept = parts
    tables, folds = dict(tables), dict(folds)
    first = house.hands[0]
    kind = rng.choice(["table", "table", "fold", "kept"])
    if kind == "fold" and folds:
        hand = rng.choice(sorted(folds))
        rows = [list(row) for row in folds[hand]]
        row = rng.choice(rows)
        row[rng.randrange(len(row))] = rng.randrange(sizes[again.hearer(house, hand)])
        folds[hand] = tuple(tuple(row) for row in rows)
    elif kind == "table":
        deed = rng.choice(house.deeds)
        many = [sizes[hand] for hand in house[deed]]
        rows = list(tables[deed])
        at = rng.randrange(many[0])
        if len(many) == 1:
            rows[at] = rng.randrange(many[0])
        else:
            pairs = list(rows[at])
            pairs[rng.randrange(many[1])] = (rng.randrange(many[0]), rng.randrange(many[1]))
            rows[at] = tuple(pairs)
        tables[deed] = tuple(rows)
    else:
        state = rng.randrange(sizes[first])
        kept = tuple(sorted(set(kept) ^ {state}))
    return sizes, tables, folds, kept


class Limits(Case):
    house = House(("a", "b", "c"), {"a": ("a",), "b": ("b",), "c": ("c",)})

    def rings(self, *sizes):
        tables = {hand: tuple((state + 1) % size for state in range(size)) for hand, size in zip("abc", sizes)}
        folds = {hand: (tuple(range(sizes[0])),) * size for hand, size in zip("bc", sizes[1:])}
        return Share(self.house, dict(zip("abc", sizes)), tables, folds, tuple(range(sizes[0])))

    def test_pairs_that_come_up(self):
        every = Wish(("a", "b", "c"), ((0, 0, 0),), (0,))
        none = Wish(("a", "b", "c"), ((0, 0, 0),), ())
        half = turning(self.house, 2, {"b": 0, "c": 0})
        third = turning(self.house, 3, {"b": 0, "c": 0})
        self.assertIs(is_paper(self.house, every, ("share", self.rings(32, 25, 25))), True)
        self.assertIs(is_paper(self.house, none, ("share", self.rings(32, 25, 25))), False)
        self.assertIs(is_paper(self.house, half, ("share", self.rings(32, 25, 25))), False)
        for wish, share in ((every, self.rings(33, 25, 25)), (none, self.rings(33, 25, 25)), (third, self.rings(32, 25, 25))):
            self.too_many(20000, is_paper, self.house, wish, ("share", share))

    def test_only_for_shares_of_the_house(self):
        many = self.rings(64, 64, 64)
        other = self.house.renamed(hands={"c": "d"})
        every = Wish(("a", "b", "c"), ((0, 0, 0),), (0,))
        self.assertIs(is_paper(other, every, ("share", many)), False)
        for value in (("breach", many), ("share", many, 0), ["share", many], ("share", [many])):
            self.assertIs(is_paper(self.house, every, value), False)
        self.too_many(20000, is_paper, self.house, every, ("share", many))


class Errors(Case):
    calls = (made, paper, lambda house, wish: is_paper(house, wish, None))

    def test_house(self):
        for call in self.calls:
            for odd in odd_values_but(House):
                self.caught(InvalidHouse, call, odd, even())
                self.caught(InvalidHouse, call, odd, odd)

    def test_wish(self):
        for call in self.calls:
            for odd in odd_values_but(Wish):
                self.caught(InvalidWish, call, duo(), odd)
                self.caught(InvalidWish, call, line(), odd)

    def test_a_wish_of_another_house(self):
        for call in self.calls:
            for house in (line(), duo().with_deed("c", ("l",)), duo().without_deed("a")):
                self.caught(InvalidOperation, call, house, even())
                self.caught(InvalidOperation, call, house, first())
                self.caught(InvalidOperation, call, house, turning(duo(), 24, {}))

    def test_steady(self):
        for house, wish in unsteady():
            self.assertIs(is_breach(house, wish, self.caught(Unsteady, made, house, wish).breach), True)

    def test_unsteady_ahead_of_too_many(self):
        rng = Random(12)
        targets = tuple(tuple(rng.randrange(24) for _ in range(3)) for _ in range(24))
        wish = Wish(duo().deeds, targets, (3, 7, 8, 20))
        self.assertGreater(len(wish), 8)
        self.caught(Unsteady, made, duo(), wish)
        self.caught(TooMany, made, duo(), turning(duo(), 9, {}))

    def test_whatever_the_value_is(self):
        for odd in odd_values() + [("share", odd_share())]:
            self.caught(InvalidHouse, is_paper, None, even(), odd)
            self.caught(InvalidWish, is_paper, duo(), None, odd)
            self.caught(InvalidOperation, is_paper, line(), even(), odd)
