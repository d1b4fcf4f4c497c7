"""[0.5], [0.6], [0.11], [0.14], stage 9: rows that part, papers of what comes up together, and wishes of shares."""

from functools import cache
from random import Random

from eachshare.base.houses import House
from eachshare.errors import InvalidOperation, InvalidShare, InvalidWish
from eachshare.share.judged import is_same_paper, parting, parting_of, same_paper, wish_of
from eachshare.share.made import made
from eachshare.share.shares import Share
from eachshare.share.steady import is_steady
from eachshare.wish.wishes import Wish
from tests import again
from tests.samples import Case, calm, crowd, duo, even, first, grid, line, many_houses, odd_parts, odd_share, odd_values
from tests.samples import odd_values_but, once, steady, turning
from tests.test_made import bent, parts_of


def size_of_rows(house):
    return 6 if len(house.deeds) < 4 else 4 if len(house.deeds) < 6 else 3


@cache
def same():
    """Pairs of a wish and a share that does it."""
    found = [(wish, made(house, wish)) for house, wish in steady(1)]
    return [(wish, share) for wish, share in found if len(share.standings()) <= 100]


@cache
def close():
    """Pairs of a wish and a share that have most rows in common, or all."""
    rng = Random(1)
    bent_ones = [(wish, Share(share.house, *bent(rng, share.house, parts_of(share)))) for wish, share in same() * 4]
    return bent_ones + same()


def shares():
    """Shares with few states of all houses."""
    rng = Random(2)
    return [Share(house, *again.random_parts(rng, house, 3)) for house in many_houses() for _ in range(6)]


def rings(*sizes, kept=(0,)):
    """A share in which one hand each goes round in so many states, so that all standings come up."""
    hands = "abcde"[:len(sizes)]
    house = House(tuple(hands), {hand: (hand,) for hand in hands})
    tables = {hand: tuple((state + 1) % size for state in range(size)) for hand, size in zip(hands, sizes)}
    folds = {hand: (tuple(range(sizes[0])),) * size for hand, size in zip(hands[1:], sizes[1:])}
    return Share(house, dict(zip(hands, sizes)), tables, folds, kept)


def met_pairs(wish, share):
    """All pairs that come up, by rows."""
    met, waiting = set(), [()]
    while waiting:
        row = waiting.pop()
        states = again.local_states(share.house, share.sizes, share.tables, row)
        pair = (again.end(wish.deeds, wish.targets, row), tuple(states.values()))
        if pair not in met:
            met.add(pair)
            waiting += [row + (deed,) for deed in wish.deeds]
    return tuple(sorted(met))


class Parting(Case):
    def test_by_rows(self):
        answers = []
        for wish, share in close():
            found = parting(wish, share)
            size = size_of_rows(share.house)
            wanted = again.first_parting(wish.deeds, size, wish, share)
            if wanted is None and found is not None:
                self.assertGreater(len(found), size)
                self.assertIs((found in wish) != (found in share), True)
            else:
                self.assertEqual(found, wanted)
            answers.append(found if found is None else len(found))
        self.assertTrue({None, 0, 1, 2, 3, 4} <= set(answers), answers)

    def test_none_exactly_if_the_share_does_the_wish(self):
        for wish, share in close():
            self.assertIs(parting(wish, share) is None, again.does(share.house, parts_of(share), wish))

    def test_first_in_order(self):
        share = odd_share()
        self.assertEqual(parting(Wish(("a", "b", "m"), ((1, 1, 0), (1, 1, 1)), (1,)), share), ("a", "a"))
        self.assertEqual(parting(Wish(("a", "b", "m"), ((1, 2, 0), (0, 2, 1), (2, 0, 2)), (1,)), share), ("b",))
        self.assertEqual(parting(Wish.of_rows(("a", "b", "m"), (("a",), ("b",), ("a", "m"), ("m", "a"))), share), ("b", "m"))

    def test_wishes_that_are_not_steady(self):
        self.assertEqual(parting(first(), odd_share()), ())
        for share in shares():
            rng = Random(3)
            for _ in range(3):
                wish = Wish(*again.random_machine(rng, share.house.deeds, 4))
                found = parting(wish, share)
                self.assertIs(found is None, again.does(share.house, parts_of(share), wish))
                if found is not None:
                    self.assertIs((found in wish) != (found in share), True)

    def test_long_way(self):
        alone = House(("a", "b"), {"a": ("a",), "b": ("b",)})
        one = Share(alone, {"a": 64, "b": 2}, {"a": tuple(range(1, 64)) + (63,), "b": (0, 1)}, {"b": (tuple(range(64)),) * 2}, (63,))
        self.assertEqual(parting(Wish.of_rows(("a", "b"), ()), one), ("a",) * 63)
        self.assertIs(parting_of(one, one), None)


class PartingOf(Case):
    def test_by_rows(self):
        found = shares()
        answers = []
        for one in found:
            for other in [other for other in found if other.house == one.house][:4]:
                size = size_of_rows(one.house)
                wanted = again.first_parting(one.house.deeds, size, one, other)
                row = parting_of(one, other)
                if wanted is None and row is not None:
                    self.assertGreater(len(row), size)
                    self.assertIs((row in one) != (row in other), True)
                else:
                    self.assertEqual(row, wanted)
                self.assertEqual(parting_of(other, one), row)
                answers.append(row is None)
        self.assertTrue(10 < sum(answers) < len(answers) - 10)

    def test_made_and_bent(self):
        for wish, share in close()[::2]:
            other = made(share.house, wish)
            self.assertEqual(parting_of(other, share), parting(wish, share))

    def test_equal_houses(self):
        house = House(("l", "r"), {deed: duo()[deed] for deed in "mba"})
        self.assertEqual(parting_of(odd_share(), Share(house, *odd_parts())), None)


class SamePaper(Case):
    def test_of_what_comes_up(self):
        for wish, share in close():
            row = parting(wish, share)
            found = same_paper(wish, share)
            if row is None:
                self.assertEqual(found, ("same", met_pairs(wish, share)))
            else:
                self.assertEqual(found[0], "row")
                self.assertIs((found[1] in wish) != (found[1] in share), True)
            self.assertEqual({type(found), type(found[1])}, {tuple})
            self.assertIs(is_same_paper(wish, share, found), True)

    def test_rows(self):
        for wish, share in close():
            deeds = wish.deeds
            for row in again.all_rows(deeds, 3)[:80] + [again.random_row(Random(4), deeds, 300)]:
                self.assertIs(is_same_paper(wish, share, ("row", row)), (row in wish) != (row in share))

    def test_a_row_of_thousands_of_deeds(self):
        row = ("a", "b", "m", "m") * 3000
        self.assertIs(is_same_paper(even(), odd_share(), ("row", row)), True)
        self.assertIs(is_same_paper(~even(), odd_share(), ("row", row)), False)

    def test_tables_with_pairs_less(self):
        for wish, share in same():
            table = met_pairs(wish, share)
            for place in range(0, len(table), max(1, len(table) // 5)):
                self.assertIs(is_same_paper(wish, share, ("same", table[:place] + table[place + 1:])), False)
            self.assertIs(is_same_paper(wish, share, ("same", ())), False)

    def test_tables_with_pairs_more(self):
        answers = []
        for wish, share in same():
            table = met_pairs(wish, share)
            wider = self.widened(wish, share, table)
            if wider is not None:
                answers.append(len(wider) > len(table))
                self.assertIs(is_same_paper(wish, share, ("same", wider)), True)
                for lost in sorted(set(wider) - set(table))[:5]:
                    less = tuple(pair for pair in wider if pair != lost)
                    self.assertIs(is_same_paper(wish, share, ("same", less)), self.is_good(wish, share, less))
        self.assertTrue(any(answers))

    def is_good(self, wish, share, table):
        """Whether a table of right pairs is a paper."""
        def told(standing):
            states = dict(zip(share.house.hands, standing))
            return again.heard(share.house, share.folds, states, share.house.hands[0])

        closed = all(
            (wish[state, deed], share.step(standing, deed)) in table for state, standing in table for deed in wish.deeds
        )
        same = all((state in wish.kept) == (told(standing) in share.kept) for state, standing in table)
        return closed and same and (0, share.first) in table

    def widened(self, wish, share, table):
        """The table with some pairs that no row leads to, closed and as well kept; None if none of them is found."""
        every = [()]
        for size in share.sizes.values():
            every = [standing + (state,) for standing in every for state in range(size)]
        for standing in every[:40]:
            for state in range(len(wish)):
                found, waiting = set(table), [(state, standing)]
                while waiting:
                    pair = waiting.pop()
                    if pair not in found:
                        found.add(pair)
                        waiting += [(wish[pair[0], deed], share.step(pair[1], deed)) for deed in wish.deeds]
                wider = tuple(sorted(found))
                if len(wider) > len(table) and self.is_good(wish, share, wider):
                    return wider
        return None

    def test_a_table_of_pairs_that_no_row_leads_to(self):
        # Standings (0, 2) and (1, 2) do not come up, and r stays in 2, which it tells like 0.
        sizes, tables, folds, kept = odd_parts()
        pairs = ((0, 0), (0, 1), (0, 2)), ((1, 0), (1, 1), (1, 2))
        share = Share(duo(), {"l": 2, "r": 3}, {"a": (1, 0), "b": (1, 0, 2), "m": pairs}, {"r": folds["r"] + ((0, 1),)}, kept)
        self.assertEqual(len(same_paper(~even(), share)[1]), 4)
        table = same_paper(~even(), share)[1]
        self.assertIs(is_same_paper(~even(), share, ("same", table)), True)
        # b leads the wish, but not this hand, from 0 to 1, so each state comes up with both; one of both is kept wrongly.
        for more in (((0, (0, 2)),), ((0, (0, 2)), (1, (1, 2))), tuple((state, (one, 2)) for state in (0, 1) for one in (0, 1))):
            self.assertIs(is_same_paper(~even(), share, ("same", tuple(sorted(table + more)))), False)
        every = Wish(("a", "b", "m"), ((0, 0, 0),), (0,))
        share = Share(duo(), share.sizes, share.tables, share.folds, (0, 1))
        table = same_paper(every, share)[1]
        for more, wanted in ((((0, (0, 2)), (0, (1, 2))), True), (((0, (0, 2)),), False), (((0, (1, 2)),), False)):
            self.assertIs(is_same_paper(every, share, ("same", tuple(sorted(table + more)))), wanted)
        lost = Share(duo(), share.sizes, share.tables, {"r": ((0, 1), (0, 1), (1, 1))}, (0,))
        self.assertIs(is_same_paper(~every, lost, ("same", table)), False)

    def test_pairs_that_part(self):
        for wish, share in close():
            if parting(wish, share) is not None:
                self.assertIs(is_same_paper(wish, share, ("same", met_pairs(wish, share))), False)

    def test_bent_tables(self):
        for wish, share in ((~even(), odd_share()), (once(), made(duo(), once())), (calm(), made(duo(), calm()))):
            table = same_paper(wish, share)[1]
            odd = [list(table), table[::-1], table + table[-1:], table[:1] + table, table[1:] + table[:1], set(table)]
            odd += [dict(table), (table,), len(table), str(table)]
            for place, (state, standing) in enumerate(table):
                pairs = [[state, standing], (state,), (state, standing, 0), (standing, state), (state, list(standing))]
                pairs += [(len(wish), standing), (-1, standing), (None, standing), (state, standing[:1]), state, standing]
                pairs += [(state, standing + (0,)), (state, (standing[0], 64)), (state, (-1, standing[1])), (state, None)]
                pairs += [(bool(state), standing) if state < 2 else None, (state, (standing[0], bool(standing[1])))]
                odd += [table[:place] + (pair,) + table[place + 1:] for pair in pairs if type(pair) is not tuple or pair != table[place]]
                for pair in pairs[-2:]:
                    odd.append(table[:place] + (pair,) + table[place + 1:])
            for value in odd:
                self.assertIs(is_same_paper(wish, share, ("same", value)), False, value)

    def test_other_states(self):
        for wish, share in ((~even(), odd_share()), (calm(), made(duo(), calm()))):
            table = same_paper(wish, share)[1]
            for place, (state, standing) in enumerate(table):
                other = tuple(sorted(table[:place] + (((state + 1) % len(wish), standing),) + table[place + 1:]))
                self.assertIs(is_same_paper(wish, share, ("same", other)), False)
                more = tuple(sorted(table + (((state + 1) % len(wish), standing),)))
                wanted = len(set(more)) == len(more) and self.is_good(wish, share, more)
                self.assertIs(is_same_paper(wish, share, ("same", more)), wanted)

    def test_other_forms(self):
        share = odd_share()
        table = same_paper(~even(), share)[1]
        values = [["same", table], ("same",), ("same", table, table), (table, "same"), ("row", table), ("Same", table)]
        values += [{"same": table}, table, ("same", ("same", table)), ("row",), ("row", ["a"]), ("row", "a"), ("same", ("a",))]
        values += [("row", ("a", "z")), ("row", ("a", ["b"])), ("row", (("a",),)), ("row", ("a",), 0), ["row", ("a",)]]
        for odd in values + odd_values() + [("same", odd) for odd in odd_values()] + [("row", odd) for odd in odd_values()]:
            self.assertIs(is_same_paper(~even(), share, odd), False)
            self.assertIs(is_same_paper(even(), share, odd), False)
        for odd in odd_values():
            self.assertIs(is_same_paper(~even(), share, (odd, table)), False)
            self.assertIs(is_same_paper(even(), share, (odd, ())), False)
            self.assertIs(is_same_paper(~even(), share, ("same", table + (odd,))), False)
            self.assertIs(is_same_paper(~even(), share, ("same", ((0, odd),) + table[1:])), False)
            self.assertIs(is_same_paper(even(), share, ("row", (odd,))), False)
        self.assertIs(is_same_paper(even(), share, ("row", ())), True)


class Limits(Case):
    every = Wish(("a", "b", "c"), ((0, 0, 0),), (0,))

    def test_just_as_many_as_can_be_told(self):
        share = rings(32, 25, 25, kept=tuple(range(32)))
        self.assertIs(parting(self.every, share), None)
        self.assertEqual(parting(~self.every, share), ())
        self.assertEqual(len(same_paper(self.every, share)[1]), 20000)
        half = turning(share.house, 2, {"b": 0, "c": 0})
        kept = rings(32, 25, 25, kept=tuple(range(0, 32, 2)))
        self.assertIs(parting(half, kept), None)
        self.assertEqual(parting_of(share, kept), ("a",))

    def test_more_pairs(self):
        share = rings(32, 25, 25, kept=tuple(range(32)))
        three = turning(share.house, 3, {"b": 0, "c": 0})
        many = rings(33, 25, 25, kept=tuple(range(33)))
        few = rings(5, 5, 5)
        # One of them is parted by (), another one by no row at all.
        for wish, wide in ((three, share), (self.every, many), (~self.every, many), (three | ~three, many)):
            self.too_many(20000, parting, wish, wide)
            self.too_many(20000, same_paper, wish, wide)
            self.assertIs(is_same_paper(wish, wide, ("row", ())), (() in wish) != (() in wide))
            self.assertIs(is_same_paper(wish, wide, ("same", ())), False)
        self.too_many(20000, parting_of, many, many)
        self.too_many(20000, parting_of, share, rings(31, 25, 25))
        self.assertEqual(parting_of(few, rings(5, 7, 9, kept=(1,))), ())
        self.too_many(20000, wish_of, many)

    def test_a_table_with_more_pairs(self):
        many = rings(33, 25, 25, kept=tuple(range(33)))
        table = tuple((0, (a, b, c)) for a in range(33) for b in range(25) for c in range(25))
        self.assertIs(is_same_paper(self.every, many, ("same", table)), True)
        self.assertIs(is_same_paper(self.every, many, ("same", table[:-1])), False)


class WishOf(Case):
    def few(self):
        """Shares whose wishes have no more than 24 states."""
        found = []
        for share in shares() + [share for _, share in close()[::3]]:
            machine = again.machine_of_parts(share.house, parts_of(share), 100)
            if machine is not None and len(machine[1]) <= 24:
                found.append(share)
        return found

    def test_rows(self):
        for share in self.few():
            wish = wish_of(share)
            self.assertEqual([type(wish), wish.deeds], [Wish, share.house.deeds])
            for row in again.all_rows(wish.deeds, min(4, size_of_rows(share.house))):
                self.assertIs(row in wish, row in share)
            row = again.random_row(Random(5), wish.deeds, 200)
            self.assertIs(row in wish, row in share)
            self.assertTrue(again.does(share.house, parts_of(share), wish))

    def test_steady(self):
        for share in self.few():
            self.assertIs(is_steady(share.house, wish_of(share)), True)

    def test_of_what_is_made(self):
        for house, wish in steady(6):
            self.assertEqual(wish_of(made(house, wish)), wish)
        self.assertEqual(wish_of(made(duo(), grid(duo(), {"a": 3, "b": 1}))), grid(duo(), {"a": 3, "b": 1}))

    def test_many_states(self):
        for many in (23, 24):
            wish = wish_of(rings(many))
            self.assertEqual([len(wish), wish.count(many), wish.kept], [many, 1, (0,)])
        self.too_many(24, wish_of, rings(25))
        self.too_many(24, wish_of, rings(64, 3))
        # The hands have more states than the wish.
        self.assertEqual(len(wish_of(rings(64, 5, kept=tuple(range(0, 64, 4))))), 4)

    def test_many_standings(self):
        share = rings(32, 25, 25, kept=tuple(range(0, 32, 2)))
        self.assertEqual(wish_of(share), turning(share.house, 2, {"b": 0, "c": 0}))
        self.too_many(24, wish_of, rings(32, 25, 25))
        self.too_many(20000, wish_of, rings(64, 64, 64))


class Errors(Case):
    def test_wish(self):
        for odd in odd_values_but(Wish):
            self.caught(InvalidWish, parting, odd, odd_share())
            self.caught(InvalidWish, parting, odd, odd)
            self.caught(InvalidWish, same_paper, odd, odd)
            self.caught(InvalidWish, is_same_paper, odd, odd, odd)

    def test_share(self):
        for odd in odd_values_but(Share):
            self.caught(InvalidShare, parting, even(), odd)
            self.caught(InvalidShare, parting_of, odd, odd_share())
            self.caught(InvalidShare, parting_of, odd_share(), odd)
            self.caught(InvalidShare, parting_of, odd, odd)
            self.caught(InvalidShare, same_paper, even(), odd)
            self.caught(InvalidShare, is_same_paper, even(), odd, odd)
            self.caught(InvalidShare, is_same_paper, turning(line(), 2, {}), odd, ())
            self.caught(InvalidShare, wish_of, odd)

    def test_a_wish_of_another_house(self):
        wishes = [turning(line(), 2, {}), turning(crowd(), 24, {}), even().renamed({"a": "c"}), Wish(("a",), ((0,),), (0,))]
        for wish in wishes + [turning(duo().with_deed("c", ("l",)), 2, {})]:
            self.caught(InvalidOperation, parting, wish, odd_share())
            self.caught(InvalidOperation, same_paper, wish, odd_share())
            for odd in odd_values()[::3] + [("row", ())]:
                self.caught(InvalidOperation, is_same_paper, wish, odd_share(), odd)
        self.caught(InvalidOperation, parting, even(), rings(64, 64, 64))

    def test_shares_of_other_houses(self):
        others = [Share(duo().renamed(hands={"r": "s"}), {"l": 2, "s": 2}, odd_parts()[1], {"s": ((0, 1), (1, 0))}, (1,))]
        given = duo().given("m", "l")
        others += [rings(2, 2), rings(64, 64, 64), made(given, even()), made(duo().as_one("l", "r"), even())]
        for other in others:
            self.caught(InvalidOperation, parting_of, odd_share(), other)
            self.caught(InvalidOperation, parting_of, other, odd_share())
