"""[14.1], stage 14: cuts of rows, and the states of the wish there."""

from itertools import product
from random import Random

from eachshare.base.houses import House
from eachshare.base.rows import alike_rows
from eachshare.errors import InvalidHouse, InvalidOperation, InvalidRow, InvalidWish, Unsteady
from eachshare.know.cuts import avoiding, count_alike, cuts, next_cuts, perhaps, row_at, state_at, surely
from eachshare.know.knowing import view
from eachshare.share.steady import is_breach
from eachshare.wish.wishes import Wish
from tests import again
from tests.samples import Case, calm, crowd, duo, even, falling, first, grid, line, many_houses, no_states, odd_values
from tests.samples import odd_values_but, once, snake, steady, turning


def drawn_rows(rng, most=6):
    for house in many_houses():
        for size in (0, 1, 2, 3, 4, 5, most, most):
            yield house, again.random_row(rng, house.deeds, size)


def drawn_wishes(rng, many=3):
    for house, wish in steady(31, each=2) + [(house, wish) for house, wish, _ in falling()]:
        for _ in range(many):
            yield house, wish, again.random_row(rng, house.deeds, rng.randint(0, 5))


def some_sets(rng, wish):
    """The empty set, all states, and some drawn sets."""
    states = tuple(range(len(wish)))
    return [(), states] + [tuple(state for state in states if rng.random() < 0.3) for _ in range(4)]


class Cuts(Case):
    def test_against_all_beginnings(self):
        for house, row in drawn_rows(Random(1)):
            found = cuts(house, row)
            self.assertEqual(found, tuple(sorted(again.cuts(house, row))))
            self.assertEqual({type(cut) for cut in found}, {tuple})

    def test_the_row_and_the_state(self):
        for house, row in drawn_rows(Random(2)):
            wish = turning(house, 5, {house.deeds[0]: 2})
            for cut, begun in again.cuts(house, row).items():
                found = row_at(house, row, cut)
                self.assertEqual(again.own_rows(house, found), again.own_rows(house, begun))
                # The deeds stand in the order of the row: the cut tells which ones of each hand they are.
                left = dict(zip(house.hands, cut))
                wanted = []
                for deed in row:
                    if left[house[deed][0]] > 0:
                        wanted.append(deed)
                    for hand in house[deed]:
                        left[hand] -= 1
                self.assertEqual(found, tuple(wanted))
                self.assertEqual(state_at(house, wish, row, cut), again.end(wish.deeds, wish.targets, begun))

    def test_next_cuts(self):
        for house, row in drawn_rows(Random(3)):
            wanted = {cut: set() for cut in again.cuts(house, row)}
            for other in again.alike(house, row):
                for many, deed in enumerate(other):
                    wanted[again.counts(house, other[:many])].add((deed, again.counts(house, other[:many + 1])))
            for cut, steps in wanted.items():
                self.assertEqual(next_cuts(house, row, cut), tuple(sorted(steps)))

    def test_values_near_cuts(self):
        for house, row in drawn_rows(Random(4), 4):
            known = again.cuts(house, row)
            wish = turning(house, 2, {})
            for cut in product(*[range(-1, many + 2) for many in again.counts(house, row)]):
                if cut not in known:
                    for call, given in ((row_at, (house, row)), (next_cuts, (house, row)), (state_at, (house, wish, row))):
                        self.caught(InvalidOperation, call, *given, cut)

    def test_values_that_are_no_cuts(self):
        row = ("a", "b", "m")
        values = [[0, 0], (0,), (0, 0, 0), (0, True), (False, 0), (True, True), (1, 2), (2, 1), (0, 3), (3, 3), (0, -1)]
        values += [{"l": 0, "r": 0}, "00", ("0", "0"), ((0, 0),), (None, 0), (0, 10 ** 60), (10 ** 99, 0), (0, [0]), 0]
        for odd in values + odd_values() + [(0, odd) for odd in odd_values() if odd != 0 and odd != 1]:
            self.caught(InvalidOperation, row_at, duo(), row, odd)
            self.caught(InvalidOperation, next_cuts, duo(), row, odd)
            self.caught(InvalidOperation, state_at, duo(), calm(), row, odd)

    def test_of_hands_without_deeds(self):
        house = House(("k", "l", "n"), {"a": ("l",), "b": ("n",)})
        self.assertEqual(cuts(house, ("a", "b")), ((0, 0, 0), (0, 0, 1), (0, 1, 0), (0, 1, 1)))
        self.assertEqual(next_cuts(house, ("a", "b"), (0, 1, 0)), (("b", (0, 1, 1)),))
        self.caught(InvalidOperation, row_at, house, ("a", "b"), (1, 0, 0))

    def test_at_both_ends(self):
        for house, row in drawn_rows(Random(5)):
            none, whole = (0,) * len(house), again.counts(house, row)
            self.assertEqual([row_at(house, row, none), row_at(house, row, whole)], [(), row])
            self.assertEqual(next_cuts(house, row, whole), ())
            self.assertEqual([cuts(house, row)[0], cuts(house, row)[-1]], [none, whole])

    def test_the_past_of_a_hand_is_a_cut(self):
        for house, wish, row in drawn_wishes(Random(6)):
            for hand in house.hands:
                cut = again.counts(house, again.past(house, row, hand))
                self.assertIn(cut, cuts(house, row))
                self.assertEqual(state_at(house, wish, row, cut), view(house, wish, row, (hand,)))


class States(Case):
    def test_perhaps(self):
        for house, wish, row in drawn_wishes(Random(7)):
            states = {again.end(wish.deeds, wish.targets, begun) for begun in again.cuts(house, row).values()}
            self.assertEqual(perhaps(house, wish, row), tuple(sorted(states)))

    def test_surely_and_avoiding(self):
        rng = Random(8)
        answers = []
        for house, wish, row in drawn_wishes(rng):
            for states in some_sets(rng, wish):
                free = [other for other in again.alike(house, row) if again.avoids(wish, other, states)]
                answers.append(len(free))
                self.assertEqual(avoiding(house, wish, row, states), free[0] if free else None)
                self.assertIs(surely(house, wish, row, states), not free)
        self.assertTrue({0, 1, 2} <= set(answers), set(answers))

    def test_some_but_not_all(self):
        # Rows of which some avoid the states, and the first one of all alike rows does not.
        rng = Random(9)
        many = 0
        for house, wish, row in drawn_wishes(rng, 6):
            for states in some_sets(rng, wish)[2:]:
                found = avoiding(house, wish, row, states)
                many += found is not None and found != again.first_alike(house, row)
        self.assertGreater(many, 2)

    def test_state_behind_no_deed_and_behind_the_whole(self):
        for house, wish, row in drawn_wishes(Random(10), 1):
            last = wish.after(row)
            for states in ((0,), (last,), tuple(sorted({0, last}))):
                self.assertIs(surely(house, wish, row, states), True)
                self.assertIs(avoiding(house, wish, row, states), None)
            self.assertIs(surely(house, wish, row, ()), False)
            self.assertEqual(avoiding(house, wish, row, ()), again.first_alike(house, row))

    def test_known(self):
        self.assertEqual(avoiding(duo(), calm(), ("b", "a"), ()), ("a", "b"))
        self.assertEqual(avoiding(duo(), calm(), ("a", "b", "m"), (1,)), ("b", "a", "m"))
        self.assertEqual(avoiding(duo(), calm(), ("a", "b", "m"), (2,)), ("a", "b", "m"))
        self.assertEqual([surely(duo(), calm(), ("a", "b"), (1,)), surely(duo(), calm(), ("a", "b"), (3,))], [False, True])
        self.assertEqual([surely(duo(), calm(), (), (0,)), surely(duo(), calm(), (), (1, 2, 3))], [True, False])


class CountAlike(Case):
    def test_against_alike_rows(self):
        for house, row in drawn_rows(Random(11), 7):
            self.assertEqual(count_alike(house, row), len(again.alike(house, row)))
            self.assertEqual(count_alike(house, row), len(list(alike_rows(house, row))))

    def test_more_than_can_be_told_one_by_one(self):
        # 44 deeds of one hand among 87 ones: Pascal's triangle tells how many there are.
        triangle = [1]
        for _ in range(87):
            triangle = [1] + [one + other for one, other in zip(triangle, triangle[1:])] + [1]
        self.assertEqual(count_alike(duo(), ("a", "b") * 43 + ("a",)), triangle[43])
        self.assertEqual(count_alike(duo(), (("a", "b") * 12 + ("m",)) * 9), 2704156 ** 9)
        self.assertEqual(count_alike(crowd(), ("ac", "bc", "cd") * 50), 1)

    def test_one(self):
        for house, row in ((duo(), ()), (duo(), ("m",) * 1999), (line(), ("a", "x", "y", "c"))):
            self.assertEqual(count_alike(house, row), 1)


class Limits(Case):
    # Rows with just 2000 cuts, and with more.
    most = ("a",) * 49 + ("b",) * 39
    more = (("a",) * 22 + ("b",) * 86, ("m",) * 2000, ("a", "b") * 3000, ("a",) * 9000)

    def test_2000_cuts(self):
        for row in (self.most, ("m",) * 1999):
            self.assertEqual(len(cuts(duo(), row)), 2000)
            self.assertEqual(next_cuts(duo(), row, (0, 0))[0][0], row[0])
            self.assertEqual(row_at(duo(), row, again.counts(duo(), row)), row)
            self.assertEqual(state_at(duo(), calm(), row, (0, 0)), 0)
            self.assertEqual(avoiding(duo(), calm(), row, ()), row)
            self.assertIs(surely(duo(), calm(), row, (0,)), True)
            self.assertGreater(count_alike(duo(), row), 0)
            self.assertEqual(perhaps(duo(), calm(), row)[0], 0)

    def test_more(self):
        for row in self.more:
            self.too_many(2000, cuts, duo(), row)
            self.too_many(2000, count_alike, duo(), row)
            self.too_many(2000, perhaps, duo(), calm(), row)
            for call in (row_at, next_cuts):
                self.too_many(2000, call, duo(), row, (0, 0))
            self.too_many(2000, state_at, duo(), calm(), row, again.counts(duo(), row))
            for call in (surely, avoiding):
                for states in ((), (0,), (0, 1, 2, 3)):
                    self.too_many(2000, call, duo(), calm(), row, states)

    def test_behind_every_other_error(self):
        for row in self.more:
            for cut in ((0,), (1, 9), (-1, 0), None, (9001, 0)):
                if cut != (1, 9) or row[0] != "a":
                    self.caught(InvalidOperation, row_at, duo(), row, cut)
                    self.caught(InvalidOperation, next_cuts, duo(), row, cut)
                    self.caught(InvalidOperation, state_at, duo(), calm(), row, cut)
            self.caught(Unsteady, state_at, duo(), first(), row, (0, 0))
            self.caught(Unsteady, perhaps, duo(), first(), row)
            for call in (surely, avoiding):
                self.caught(Unsteady, call, duo(), first(), row, ())
                self.caught(InvalidOperation, call, duo(), calm(), row, (4,))

    def test_rows_of_hundreds_of_deeds(self):
        row = ("a", "m", "b", "m") * 200
        self.assertEqual([len(cuts(duo(), row)), count_alike(duo(), row), perhaps(duo(), calm(), row)], [801, 1, (0, 1, 2)])
        self.assertEqual([avoiding(duo(), calm(), row, (3,)), surely(duo(), calm(), row, (2,))], [row, True])
        row = ("bc", "ac", "ae", "de") * 100
        wish = turning(snake(), 24, {"de": 5})
        found = cuts(snake(), row)
        self.assertEqual([state_at(snake(), wish, row, cut) for cut in (found[0], found[-1])], [0, wish.after(row)])


class Errors(Case):
    # Each call with what stands ahead of a row and behind it, with a wish or without one.
    plain = ((cuts, ()), (row_at, ((0, 0),)), (next_cuts, ((0, 0),)), (count_alike, ()))
    wishes = ((state_at, ((0, 0),)), (perhaps, ()), (surely, ((),)), (avoiding, ((),)))

    def test_house(self):
        for odd in odd_values_but(House):
            for call, more in self.plain:
                self.caught(InvalidHouse, call, odd, ("a",), *more)
                self.caught(InvalidHouse, call, odd, odd, *[odd for _ in more])
            for call, more in self.wishes:
                self.caught(InvalidHouse, call, odd, calm(), ("a",), *more)
                self.caught(InvalidHouse, call, odd, odd, odd, *[odd for _ in more])

    def test_wish(self):
        for odd in odd_values_but(Wish):
            for call, more in self.wishes:
                self.caught(InvalidWish, call, duo(), odd, ("a",), *more)
                self.caught(InvalidWish, call, duo(), odd, odd, *[odd for _ in more])

    def test_row(self):
        for odd in odd_values() + ["a", ["a"], ("z",), ("a", ["b"]), ("l",), {}, []]:
            for call, more in self.plain:
                self.caught(InvalidRow, call, duo(), odd, *more)
                self.caught(InvalidRow, call, duo(), odd, *[odd for _ in more])
            for call, more in self.wishes:
                self.caught(InvalidRow, call, duo(), calm(), odd, *more)
                self.caught(InvalidRow, call, line(), first(), odd, *[odd for _ in more])

    def test_states(self):
        for call in (surely, avoiding):
            for odd in no_states(4):
                self.caught(InvalidOperation, call, duo(), calm(), ("a",), odd)
            for odd in no_states(3):
                self.caught(InvalidOperation, call, duo(), first(), ("a",), odd)

    def test_belongs_and_steady(self):
        for call, more in self.wishes:
            for wish in (calm(), first()):
                self.caught(InvalidOperation, call, line(), wish, (), *[() for _ in more])
                self.caught(InvalidOperation, call, duo().with_deed("c", ("l",)), wish, (), *more)
            found = self.caught(Unsteady, call, duo(), first(), (), *more).breach
            self.assertIs(is_breach(duo(), first(), found), True)
            self.caught(Unsteady, call, duo().given("m", "r"), once(), (), *more)

    def test_nothing_that_is_passed_is_changed(self):
        house, wish = duo(), grid(duo(), {"a": 1, "b": 1})
        for call, more in self.plain:
            self.assertEqual(call(house, ("a", "b"), *more), call(duo(), ("a", "b"), *more))
        for call, more in self.wishes:
            self.assertEqual(call(house, wish, ("a", "b"), *more), call(duo(), grid(duo(), {"a": 1, "b": 1}), ("a", "b"), *more))
        self.assertEqual([house, wish, even()], [duo(), grid(duo(), {"a": 1, "b": 1}), even()])
