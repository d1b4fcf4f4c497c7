"""[0.9], [0.17], [11.1] to [11.3], stage 11: what hands know of a wish behind a row."""

from random import Random

from eachshare.base.houses import House
from eachshare.errors import InvalidHouse, InvalidOperation, InvalidRow, InvalidWish, Unsteady
from eachshare.know.knowing import does_know, doubt, hopeless, is_lasting, lasting_from, may_be, view, won
from eachshare.share.steady import is_breach
from eachshare.wish.wishes import Wish
from tests import again
from tests.samples import Case, calm, crowd, duo, even, first, groves, line, no_hands, no_numbers, no_states
from tests.samples import odd_values, odd_values_but, once, steady, turning


def short_rows(house):
    return again.all_rows(house.deeds, 4 if len(house.deeds) < 4 else 2)


def some_rows(rng, house, many):
    return [again.random_row(rng, house.deeds, rng.randint(0, 12)) for _ in range(many)]


def drawn(seed, many, most):
    """Wishes of all kinds, steady for some house or not."""
    rng = Random(seed)
    found = [even(), once(), calm(), first(), ~calm(), Wish(("a",), ((0,),), ()), Wish(("a",), ((0,),), (0,))]
    return found + [Wish(*again.random_machine(rng, ("a", "b", "m")[:rng.randint(1, 3)], most)) for _ in range(many)]


class View(Case):
    def test_all_sets_of_hands(self):
        for house, wish in steady(1)[::2]:
            for row in short_rows(house):
                for hands in again.subsets(house.hands):
                    self.assertEqual(view(house, wish, row, hands), again.joint_view(house, wish, row, hands))

    def test_longer_rows(self):
        rng = Random(2)
        for house, wish in steady(1):
            for row in some_rows(rng, house, 5):
                for hands in again.subsets(house.hands):
                    self.assertEqual(view(house, wish, row, hands), again.joint_view(house, wish, row, hands))

    def test_nobody_and_all(self):
        rng = Random(3)
        for house, wish in steady(1):
            for row in some_rows(rng, house, 5):
                self.assertEqual([view(house, wish, row, ()), view(house, wish, row, house.hands)], [0, wish.after(row)])

    def test_alike_rows(self):
        rng = Random(4)
        for house, wish in steady(1)[::2]:
            for row in some_rows(rng, house, 3):
                for other in again.alike(house, row[:6])[:20]:
                    for hands in again.subsets(house.hands):
                        self.assertEqual(view(house, wish, row[:6], hands), view(house, wish, other, hands))

    def test_rows_of_thousands_of_deeds(self):
        wish = turning(crowd(), 24, {"th": 7, "ac": 0})
        row = again.random_row(Random(5), crowd().deeds, 5000)
        for hands in (("a",), ("b", "e"), ("d", "e"), crowd().hands):
            self.assertEqual(view(crowd(), wish, row, hands), again.joint_view(crowd(), wish, row, hands))


class MayBe(Case):
    def test_by_ends(self):
        for house, wish in steady(6)[::2]:
            for row in short_rows(house)[:60]:
                for hands in again.subsets(house.hands):
                    self.assertEqual(may_be(house, wish, row, hands), again.may_be(house, wish, row, hands))

    def test_all_rows_with_the_same_joint_past(self):
        for wish in (even(), once(), calm()):
            rows = again.all_rows(("a", "b", "m"), 6)
            for hands in again.subsets(("l", "r")):
                same = {}
                for row in rows:
                    known = again.first_alike(duo(), again.joint_past(duo(), row, hands))
                    same.setdefault(known, set()).add(wish.after(row))
                for row in again.all_rows(("a", "b", "m"), 3):
                    known = again.first_alike(duo(), again.joint_past(duo(), row, hands))
                    self.assertEqual(may_be(duo(), wish, row, hands), tuple(sorted(same[known])))

    def test_nobody_and_all(self):
        rng = Random(7)
        for house, wish in steady(6):
            for row in some_rows(rng, house, 3):
                self.assertEqual(may_be(house, wish, row, ()), tuple(range(len(wish))))
                self.assertEqual(may_be(house, wish, row, house.hands), (wish.after(row),))

    def test_kinds(self):
        found = may_be(duo(), calm(), ("a",), ("l",))
        self.assertEqual([type(found)] + [type(state) for state in found], [tuple] + [int] * len(found))


class DoesKnow(Case):
    def test_all_sets_of_states(self):
        rng = Random(8)
        for house, wish in steady(8, most=5)[::2]:
            for row in some_rows(rng, house, 3):
                for hands in again.subsets(house.hands)[::2]:
                    known = set(again.may_be(house, wish, row, hands))
                    for states in again.subsets(tuple(range(len(wish)))):
                        self.assertIs(does_know(house, wish, row, hands, states), known <= set(states))

    def test_empty_and_all(self):
        for house, wish in steady(8)[::4]:
            for hands in again.subsets(house.hands):
                self.assertIs(does_know(house, wish, house.deeds, hands, ()), False)
                self.assertIs(does_know(house, wish, house.deeds, hands, tuple(range(len(wish)))), True)


class Doubt(Case):
    def test_first_of_the_shortest(self):
        rng = Random(9)
        for house, wish in steady(9, most=4)[::2]:
            for row in some_rows(rng, house, 3):
                for hands in again.subsets(house.hands):
                    free = [deed for deed in house.deeds if not set(house[deed]) & set(hands)]
                    start = again.joint_view(house, wish, row, hands)
                    rows = again.all_rows(free, len(wish) - 1 if len(free) < 5 else 2)
                    for state in range(len(wish)):
                        wanted = next((more for more in rows if wish.after(more, start) == state), None)
                        found = doubt(house, wish, row, hands, state)
                        if wanted is None and found is not None:
                            self.assertGreater(len(found), 2)
                            self.assertEqual(wish.after(found, start), state)
                        else:
                            self.assertEqual(found, wanted)

    def test_just_where_the_wish_may_be(self):
        rng = Random(10)
        for house, wish in steady(9):
            for row in some_rows(rng, house, 3):
                for hands in again.subsets(house.hands)[::3]:
                    found = [state for state in range(len(wish)) if doubt(house, wish, row, hands, state) is not None]
                    self.assertEqual(tuple(found), may_be(house, wish, row, hands))

    def test_known(self):
        self.assertEqual(doubt(duo(), calm(), ("a",), ("l",), 1), ())
        self.assertIs(doubt(duo(), calm(), ("a",), ("l",), 0), None)
        house = House(("k", "n"), {"a": ("k",), "b": ("n",), "c": ("n",)})
        wish = turning(house, 24, {"b": 2, "c": 1})
        self.assertEqual(doubt(house, wish, (), ("k",), wish.after(("a",) * 5)), ("b", "b", "c"))
        self.assertEqual(doubt(house, wish, (), (), wish.after(("a",) * 5)), ("a", "b", "b"))


class Lasting(Case):
    def test_is_lasting(self):
        for wish in drawn(11, 30, 6):
            for states in again.subsets(tuple(range(len(wish)))):
                wanted = all(wish.after((deed,), state) in states for state in states for deed in wish.deeds)
                self.assertIs(is_lasting(wish, states), wanted)

    def test_lasting_from(self):
        for wish in drawn(12, 20, 6):
            lasting = again.lasting_sets(wish)
            for states in again.subsets(tuple(range(len(wish)))):
                found = lasting_from(wish, states)
                self.assertIn(found, lasting)
                self.assertEqual(found, min([one for one in lasting if set(states) <= set(one)], key=len))

    def test_hopeless_and_won(self):
        for wish in drawn(13, 60, 7):
            rows = again.all_rows(wish.deeds, 5 if len(wish.deeds) < 3 else 4)
            for state in range(len(wish)):
                ends = set(again.reached(wish, wish.deeds, state))
                self.assertIs(state in hopeless(wish), not ends & set(wish.kept))
                self.assertIs(state in won(wish), ends <= set(wish.kept))
                kept = {wish.after(row, state) in wish.kept for row in rows}
                self.assertTrue(kept != {True, False} or state not in hopeless(wish) + won(wish))
            for found in (hopeless(wish), won(wish)):
                self.assertEqual([type(found), found], [tuple, tuple(sorted(found))])
                self.assertIs(is_lasting(wish, found), True)
                self.assertLessEqual(len(found), 1)

    def test_known(self):
        self.assertEqual([hopeless(calm()), won(calm()), hopeless(~calm()), won(~calm())], [(3,), (), (), (3,)])
        self.assertEqual([hopeless(even()), won(even())], [(), ()])
        self.assertEqual([hopeless(Wish(("a",), ((0,),), ())), won(Wish(("a",), ((0,),), (0,)))], [(0,), (0,)])
        self.assertEqual(lasting_from(turning(crowd(), 24, {}), (7,)), tuple(range(24)))

    def test_wishes_that_are_steady_for_no_house_of_two(self):
        self.assertEqual([hopeless(first()), won(first()), is_lasting(first(), (2,)), is_lasting(first(), (0,))], [(2,), (1,), True, False])
        self.assertEqual(lasting_from(first(), (0,)), (0, 1, 2))


class Errors(Case):
    # Each call with what follows a house and a wish in it.
    calls = (
        (view, ((), ())), (may_be, ((), ())), (does_know, ((), (), ())), (doubt, ((), (), 0)),
    )

    def test_house_and_wish(self):
        for call, more in self.calls:
            for odd in odd_values_but(House):
                self.caught(InvalidHouse, call, odd, even(), *more)
                self.caught(InvalidHouse, call, odd, odd, *[odd for _ in more])
            for odd in odd_values_but(Wish):
                self.caught(InvalidWish, call, duo(), odd, *more)
                self.caught(InvalidWish, call, line(), odd, *[odd for _ in more])

    def test_row(self):
        for call, more in self.calls:
            for odd in odd_values() + ["a", ["a"], ("z",), ("a", ["b"]), ("l",), {}, []]:
                self.caught(InvalidRow, call, duo(), even(), odd, *more[1:])
                self.caught(InvalidRow, call, line(), even(), odd, *[None for _ in more[1:]])
                self.caught(InvalidRow, call, duo(), first(), odd, *more[1:])

    def test_hands(self):
        for call, more in self.calls:
            for odd in no_hands():
                self.caught(InvalidOperation, call, duo(), even(), ("a",), odd, *more[2:])
                self.caught(InvalidOperation, call, duo(), even(), (), odd, *[odd for _ in more[2:]])
                self.caught(InvalidOperation, call, duo(), first(), (), odd, *more[2:])

    def test_states(self):
        for odd in no_states(2):
            self.caught(InvalidOperation, does_know, duo(), even(), ("a",), ("l",), odd)
        for odd in no_states(3):
            self.caught(InvalidOperation, does_know, duo(), first(), ("a",), ("l",), odd)

    def test_state(self):
        for odd in no_numbers(2):
            self.wrong_number(odd, doubt, duo(), even(), ("a",), ("l",), odd)
            self.wrong_number(odd, doubt, duo().with_deed("c", ("l",)), even(), ("a",), ("l",), odd)
        for odd in no_numbers(3):
            self.wrong_number(odd, doubt, duo(), first(), ("a",), ("l",), odd)

    def test_belongs_and_steady(self):
        for call, more in self.calls:
            for wish in (even(), first()):
                self.caught(InvalidOperation, call, line(), wish, *more)
                self.caught(InvalidOperation, call, duo().with_deed("c", ("l",)), wish, *more)
            self.assertIs(is_breach(duo(), first(), self.caught(Unsteady, call, duo(), first(), *more).breach), True)

    def test_wish_alone(self):
        for odd in odd_values_but(Wish):
            self.caught(InvalidWish, hopeless, odd)
            self.caught(InvalidWish, won, odd)
            for call in (is_lasting, lasting_from):
                self.caught(InvalidWish, call, odd, (0,))
                self.caught(InvalidWish, call, odd, odd)
        for odd in no_states(2):
            self.caught(InvalidOperation, is_lasting, even(), odd)
            self.caught(InvalidOperation, lasting_from, even(), odd)
        self.assertEqual([is_lasting(even(), ()), lasting_from(even(), ())], [True, ()])

    def test_hands_without_deeds(self):
        self.assertEqual(view(groves(), turning(groves(), 4, {}), ("one", "ab", "d"), ("e",)), 0)
        self.assertEqual(view(groves(), turning(groves(), 4, {}), ("one", "ab", "d"), ("b", "e")), 2)
