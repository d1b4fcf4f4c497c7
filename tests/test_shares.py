"""[0.11], [0.14], [0.19], [6.1], stage 6: shares, and where rows lead them."""

from random import Random

from eachshare.base.houses import House
from eachshare.errors import InvalidOperation, InvalidRow
from eachshare.share import shares as module
from eachshare.share.shares import Share
from tests import again
from tests.samples import Case, crowd, duo, groves, line, many_houses, no_numbers, odd_parts, odd_share, odd_values
from tests.samples import odd_values_but, snake


def random_shares(seed, most=3):
    """Some shares of each house, with their parts."""
    rng = Random(seed)
    found = []
    for house in many_houses():
        for _ in range(4):
            parts = again.random_parts(rng, house, most)
            found.append((Share(house, *parts), house, parts))
    return found


def short_rows(house):
    return again.all_rows(house.deeds, 5 if len(house.deeds) < 4 else 3 if len(house.deeds) < 8 else 2)


def rings(*sizes):
    """A share in which one hand each goes round in so many states, so that all standings come up."""
    hands = ("a", "b", "c", "d", "e")[:len(sizes)]
    house = House(hands, {hand: (hand,) for hand in hands})
    tables = {hand: tuple((state + 1) % size for state in range(size)) for hand, size in zip(hands, sizes)}
    folds = {hand: (tuple(range(sizes[0])),) * size for hand, size in zip(hands[1:], sizes[1:])}
    return Share(house, dict(zip(hands, sizes)), tables, folds, (0,))


def ring_of_two(many, *sizes):
    """Like rings, but for two more hands that together go round in so many of their standings."""
    pairs = [(one, other) for one in range(64) for other in range(64)][:many]
    following = dict(zip(pairs, pairs[1:] + pairs[:1]))
    table = tuple(tuple(following.get((one, other), (0, 0)) for other in range(64)) for one in range(64))
    alone = rings(*sizes)
    hands = alone.house.hands + ("x", "y")
    house = House(hands, {**{deed: alone.house[deed] for deed in alone.house.deeds}, "xy": ("x", "y")})
    folds = {**alone.folds, "x": (tuple(range(sizes[0])),) * 64, "y": (tuple(range(64)),) * 64}
    return Share(house, {**alone.sizes, "x": 64, "y": 64}, {**alone.tables, "xy": table}, folds, (0,))


class Moving(Case):
    def test_after(self):
        for share, house, parts in random_shares(1):
            for row in short_rows(house):
                wanted = again.local_states(house, *parts[:2], row)
                self.assertEqual(share.after(row), tuple(wanted[hand] for hand in house.hands))

    def test_step(self):
        for share, house, parts in random_shares(2):
            for row in short_rows(house):
                if row:
                    self.assertEqual(share.step(share.after(row[:-1]), row[-1]), share.after(row))

    def test_from_standings_that_do_not_come_up(self):
        fixed = Share(line(), {"p": 2, "q": 2, "r": 2}, {
            "a": (0, 0), "c": (0, 1), "x": (((0, 0), (1, 1)), ((0, 1), (1, 0))), "y": (((0, 0), (0, 1)), ((1, 0), (0, 0))),
        }, {"q": ((0, 1), (1, 0)), "r": ((0, 1), (0, 1))}, (1,))
        self.assertEqual(fixed.standings(), ((0, 0, 0),))
        self.assertEqual([fixed.step((1, 1, 1), deed) for deed in "acxy"], [(0, 1, 1), (1, 1, 1), (1, 0, 1), (1, 0, 0)])
        self.assertEqual([fixed.told(standing) for standing in ((1, 0, 0), (0, 1, 1), (1, 1, 0))], [1, 1, 0])

    def test_rows_alike_lead_to_the_same_standing(self):
        for share, house, _ in random_shares(3):
            for row in short_rows(house)[::3]:
                self.assertEqual(len({share.after(other) for other in again.alike(house, row)}), 1)
                self.assertEqual(len({other in share for other in again.alike(house, row)}), 1)

    def test_other_hands_stay(self):
        for share, house, _ in random_shares(4):
            for standing in share.standings():
                for deed in house.deeds:
                    moved = zip(house.hands, standing, share.step(standing, deed))
                    self.assertTrue(all(one == other for hand, one, other in moved if hand not in house[deed]))

    def test_long_rows(self):
        for share, house, parts in random_shares(5):
            row = again.random_row(Random(6), house.deeds, 3000)
            wanted = again.local_states(house, *parts[:2], row)
            self.assertEqual(share.after(row), tuple(wanted.values()))
            self.assertIs(row in share, again.heard(house, parts[2], wanted, house.hands[0]) in parts[3])


class Telling(Case):
    def test_told(self):
        rng = Random(7)
        for share, house, (sizes, _, folds, _) in random_shares(8, 4):
            for _ in range(60):
                states = {hand: rng.randrange(size) for hand, size in sizes.items()}
                self.assertEqual(share.told(tuple(states.values())), again.heard(house, folds, states, house.hands[0]))

    def test_contains(self):
        for share, house, (sizes, tables, folds, kept) in random_shares(9):
            for row in short_rows(house):
                states = again.local_states(house, sizes, tables, row)
                self.assertIs(row in share, again.heard(house, folds, states, house.hands[0]) in kept)

    def order(self, house):
        """A share whose first hand has, when all have told, a state that tells who told it, and in which order."""
        sizes = {hand: 31 for hand in house.hands}
        tables = {}
        for deed in house.deeds:
            stay = tuple(range(31))
            pairs = tuple(tuple((one, other) for other in range(31)) for one in range(31))
            tables[deed] = stay if len(house[deed]) == 1 else pairs
        folds = {}
        for at, hand in enumerate(house.hands[1:], 2):
            folds[hand] = tuple(tuple((state * 3 + low * at + at) % 31 for state in range(31)) for low in range(31))
        return Share(house, sizes, tables, folds, ()), folds

    def test_order_of_telling(self):
        rng = Random(10)
        for house in many_houses():
            share, folds = self.order(house)
            for _ in range(50):
                states = {hand: rng.randrange(31) for hand in house.hands}
                self.assertEqual(share.told(tuple(states.values())), again.heard(house, folds, states, house.hands[0]))

    def test_by_hand(self):
        share, _ = self.order(groves())
        # d and e are tops of other trees, so they tell to a, as b and c do, which hang below it.
        state = 1
        for at, low in ((2, 5), (3, 0), (4, 7), (5, 30)):
            state = (state * 3 + low * at + at) % 31
        self.assertEqual(share.told((1, 5, 0, 7, 30)), state)
        share, _ = self.order(snake())
        # b tells to c, and then c to a; d tells to e, and then e to a.
        c, e = (3 * 3 + 2 * 2 + 2) % 31, (5 * 3 + 4 * 4 + 4) % 31
        state = (1 * 3 + c * 3 + 3) % 31
        self.assertEqual(share.told((1, 2, 3, 4, 5)), (state * 3 + e * 5 + 5) % 31)
        share, _ = self.order(crowd())
        # b and d tell to c, and then c to a; e tells to a.
        c = (3 * 3 + 2 * 2 + 2) % 31
        c = (c * 3 + 4 * 4 + 4) % 31
        state = (1 * 3 + c * 3 + 3) % 31
        self.assertEqual(share.told((1, 2, 3, 4, 5)), (state * 3 + 5 * 5 + 5) % 31)

    def test_a_hand_that_two_tell_to(self):
        house = House(("a", "b", "c"), {"d": ("a",)})
        folds = {"b": ((0, 1, 2), (1, 1, 1)), "c": ((0, 1, 2), (2, 2, 0))}
        share = Share(house, {"a": 3, "b": 2, "c": 2}, {"d": (1, 2, 0)}, folds, (2,))
        self.assertEqual([share.told((0, *others)) for others in ((0, 0), (1, 0), (0, 1), (1, 1))], [0, 1, 2, 2])
        self.assertEqual([share.told((2, *others)) for others in ((0, 0), (1, 0), (0, 1), (1, 1))], [2, 1, 0, 2])

    def test_one_hand(self):
        share = Share(House(("z",), {"z": ("z",)}), {"z": 3}, {"z": (1, 2, 2)}, {}, (0, 2))
        self.assertEqual([("z",) * many in share for many in range(5)], [True, False, True, True, True])
        self.assertEqual([share.folds, share.standings(), share.first, str(share)], [
            {}, ((0,), (1,), (2,)), (0,), "share of 1 hands, 3 states",
        ])


class Standings(Case):
    def test_constants(self):
        self.assertEqual((module.MAX_LOCAL, module.MAX_STANDINGS), (64, 20000))

    def test_all_that_come_up(self):
        for share, house, parts in random_shares(11):
            met, waiting = {share.first}, [()]
            while waiting:
                row = waiting.pop()
                for deed in house.deeds:
                    standing = tuple(again.local_states(house, *parts[:2], row + (deed,)).values())
                    if standing not in met:
                        met.add(standing)
                        waiting.append(row + (deed,))
            self.assertEqual(share.standings(), tuple(sorted(met)))

    def test_just_as_many_as_can_be_told(self):
        share = rings(32, 25, 25)
        self.assertEqual(share.standings(), tuple((p, q, r) for p in range(32) for q in range(25) for r in range(25)))
        self.assertEqual(len(rings(5, 5, 5, 5, 32).standings()), 20000)
        self.assertEqual(len(ring_of_two(4000, 5).standings()), 20000)
        self.assertEqual(len(ring_of_two(4096, 4).standings()), 16384)

    def test_more(self):
        self.assertEqual(113 * 59 * 3, 20001)
        self.too_many(20000, ring_of_two(113, 59, 3).standings)
        self.too_many(20000, rings(33, 25, 25).standings)
        self.too_many(20000, rings(64, 64, 64, 64, 64).standings)
        self.too_many(20000, ring_of_two(4001, 5).standings)

    def test_other_calls_have_no_limit(self):
        share = rings(64, 64, 64, 64, 64)
        self.assertEqual(share.after(("a", "b", "e") * 100), (36, 36, 0, 0, 36))
        self.assertIs(("a",) * 64 + ("b",) in share, True)
        self.assertEqual(len(share), 320)

    def test_long_way(self):
        house = House(("k", "n"), {"x": ("k", "n")})
        pairs = [(one, other) for one in range(64) for other in range(64)]
        following = dict(zip(pairs, pairs[1:] + pairs[:1]))
        table = tuple(tuple(following[one, other] for other in range(64)) for one in range(64))
        share = Share(house, {"k": 64, "n": 64}, {"x": table}, {"n": (tuple(range(64)),) * 64}, (63,))
        self.assertEqual(share.standings(), tuple(pairs))
        self.assertEqual(share.after(("x",) * 4095), (63, 63))


class Asking(Case):
    def test_first(self):
        for share, house, _ in random_shares(12):
            self.assertEqual([share.first, share.after(())], [(0,) * len(house)] * 2)

    def test_length_and_text(self):
        for share, house, parts in random_shares(13, 9):
            many = sum(parts[0].values())
            self.assertEqual([len(share), str(share)], [many, f"share of {len(house)} hands, {many} states"])
            self.assertTrue(share)

    def test_kinds_of_values(self):
        for share, house, _ in random_shares(14):
            values = [share.first, share.after(house.deeds), share.standings(), share.step(share.first, house.deeds[0])]
            self.assertEqual({type(value) for value in values + list(share.standings())}, {tuple})
            self.assertEqual({type(state) for standing in share.standings() for state in standing}, {int})
            self.assertEqual(type(share.told(share.first)), int)

    def test_contains_any_value(self):
        for odd in odd_values() + ["a", ["a"], ("z",), ("a", ["b"]), (("a",),), {}, [], {"a": 1}, None]:
            self.assertIs(odd in odd_share(), False)
            self.assertIs(("a", odd) in odd_share(), odd == "b")

    def test_row(self):
        for odd in odd_values() + ["a", ["a"], ("z",), ("a", ["b"]), ("l",), {}, []]:
            self.caught(InvalidRow, odd_share().after, odd)
            self.caught(InvalidRow, odd_share().after, ("a", (odd,)))

    def test_standing(self):
        wrong = odd_values() + [(), (0,), (0, 0, 0), [0, 0], (0, 2), (2, 0), (-1, 0), "00", {0: 0, 1: 1}, {}]
        wrong = [odd for odd in wrong if odd != (0, 0)] + [(True, 0), (0, True), (False, 0), (0, False)]
        wrong += [(0, odd) for odd in no_numbers(2)] + [(odd, 1) for odd in no_numbers(2)]
        for odd in wrong:
            self.caught(InvalidOperation, odd_share().step, odd, "a")
            self.caught(InvalidOperation, odd_share().step, odd, "z")
            self.caught(InvalidOperation, odd_share().step, odd, odd)
            self.caught(InvalidOperation, odd_share().told, odd)

    def test_standing_of_hands_of_other_sizes(self):
        share = rings(3, 1, 2)
        self.assertEqual([share.told((2, 0, 1)), share.step((2, 0, 1), "a")], [2, (0, 0, 1)])
        for standing in ((3, 0, 0), (0, 1, 0), (0, 0, 2)):
            self.caught(InvalidOperation, share.told, standing)
            self.caught(InvalidOperation, share.step, standing, "a")

    def test_deed(self):
        for odd in odd_values() + ["l", "z", ("a",), ["a"], (), {}]:
            self.unknown(odd, odd_share().step, (0, 0), odd)

    def test_not_iterated_over(self):
        for share, _, _ in random_shares(15):
            self.not_iterated_over(share)

    def test_equal_to_no_other_kind(self):
        for odd in odd_values() + [odd_parts(), duo(), (duo(), *odd_parts()), str(odd_share()), len(odd_share()), ()]:
            same = isinstance(odd, Share)
            self.assertIs(odd_share() == odd, same)
            self.assertIs(odd_share() != odd, not same)
            self.assertIs(odd == odd_share(), same)
            self.assertIs(odd != odd_share(), not same)

    def test_no_argument_of_another_kind_changes_it(self):
        share = odd_share()
        for odd in odd_values_but(tuple):
            self.caught(InvalidOperation, share.told, odd)
            self.caught(InvalidRow, share.after, odd)
        self.assertEqual(share, odd_share())
