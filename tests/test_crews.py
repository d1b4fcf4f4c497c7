"""[17.1], [17.2], [0.18], stage 17: crews, which lead to states by themselves, and gifts of deeds."""

from itertools import product
from random import Random
from unittest.mock import patch

from eachshare.base.houses import House
from eachshare.errors import InvalidHouse, InvalidOperation, InvalidRow, InvalidWish, Unsteady
from eachshare.put import crews as module
from eachshare.put.crews import against, gifted, greatest_gifts, is_against, is_crew, is_good, least_crews, plan
from eachshare.share.steady import breach, is_breach, is_steady
from eachshare.wish.wishes import Wish
from tests import again
from tests.samples import Case, calm, crowd, duo, even, falling, first, grid, groves, line, many_houses, no_hands
from tests.samples import no_states, odd_values, odd_values_but, once, snake, steady, turning


def drawn(rng, many=2):
    for house, wish in steady(61, each=3) + [(house, wish) for house, wish, _ in falling()]:
        for _ in range(many):
            yield house, wish, again.random_row(rng, house.deeds, rng.randint(0, 4))


def some_sets(rng, wish):
    states = tuple(range(len(wish)))
    return [(), states, (0,), states[-1:]] + [tuple(state for state in states if rng.random() < 0.3) for _ in range(3)]


def deeds_of(house, hands):
    return [deed for deed in house.deeds if set(house[deed]) <= set(hands)]


def first_plan(house, wish, row, states, hands, size):
    """The first one of all short rows of deeds of these hands, or None."""
    begun = again.end(wish.deeds, wish.targets, row)
    rows = again.all_rows(deeds_of(house, hands), size) if deeds_of(house, hands) else [()]
    return next((more for more in rows if again.end(wish.deeds, wish.targets, more, begun) in states), None)


def all_gifts(house):
    """All ascending tuples of gifts of different deeds."""
    choices = [[None] + [(deed, hand) for hand in house[deed]] if len(house[deed]) == 2 else [None] for deed in house.deeds]
    return [tuple(gift for gift in some if gift) for some in product(*choices)]


def house_of(house, gifts):
    """The house with some gifts, made at once."""
    given = dict(gifts)
    return House(house.hands, {deed: (given[deed],) if deed in given else house[deed] for deed in house.deeds})


def givers():
    """Pairs of a house and a steady wish with several deeds that can be given."""
    found = [(duo(), wish) for wish in (even(), once(), calm(), turning(duo(), 3, {}))]
    twice = House(("k", "n"), {"e": ("k", "n"), "f": ("k", "n"), "g": ("k",)})
    found += [(twice, turning(twice, 4, {"f": 2})), (twice, grid(twice, {"e": 1, "f": 1})), (twice, grid(twice, {"g": 2}))]
    found += [(twice, Wish(("e", "f", "g"), ((1, 2, 0), (1, 1, 1), (2, 2, 2)), (0, 1)))]
    found += [(snake(), wish) for wish in (turning(snake(), 3, {"ae": 2}), grid(snake(), {"bc": 1, "de": 1}))]
    found += [(crowd(), turning(crowd(), 5, {})), (groves(), grid(groves(), {"ab": 1, "two": 1}))]
    third = House(("p", "q", "r"), {"x": ("p", "q"), "y": ("q", "r"), "z": ("q", "r"), "w": ("p", "q")})
    found += [(third, turning(third, 2, {})), (third, grid(third, {"x": 1, "y": 1}))]
    rng = Random(62)
    for house in (twice, third, snake(), crowd()):
        left = 4
        while left:
            machine = again.machine_of_parts(house, again.random_parts(rng, house, 2), 24)
            if machine is not None and len(Wish(*machine)) > 1:
                found.append((house, Wish(*machine)))
                left -= 1
    return found


class Crews(Case):
    def test_against_a_second_reaching(self):
        rng = Random(1)
        answers = []
        for house, wish, row in drawn(rng):
            begun = again.end(wish.deeds, wish.targets, row)
            for states in some_sets(rng, wish):
                crews = []
                for hands in again.subsets(house.hands):
                    reached = again.reached(wish, deeds_of(house, hands), begun)
                    answers.append(bool(set(reached) & set(states)))
                    self.assertIs(is_crew(house, wish, row, states, hands), answers[-1])
                    if answers[-1]:
                        crews.append(hands)
                least = [one for one in crews if not any(set(other) < set(one) for other in crews)]
                self.assertEqual(least_crews(house, wish, row, states), tuple(sorted(least)))
        self.assertTrue(200 < sum(answers) < len(answers) - 200)

    def test_greater_sets_are_crews(self):
        rng = Random(2)
        for house, wish, row in drawn(rng, 1):
            for states in some_sets(rng, wish):
                crews = {hands for hands in again.subsets(house.hands) if is_crew(house, wish, row, states, hands)}
                for hands in crews:
                    for hand in house.hands:
                        self.assertIn(tuple(sorted({*hands, hand})), crews)

    def test_no_hands_and_no_crew(self):
        for house, wish, row in drawn(Random(3)):
            state = wish.after(row)
            self.assertEqual(least_crews(house, wish, row, (state,)), ((),))
            self.assertEqual(least_crews(house, wish, row, tuple(range(len(wish)))), ((),))
            self.assertEqual(least_crews(house, wish, row, ()), ())
            self.assertEqual([plan(house, wish, row, (state,), ()), plan(house, wish, row, (), house.hands)], [(), None])
        self.assertEqual(least_crews(duo(), calm(), ("a", "b"), (0, 1, 2)), ())

    def test_several_least_crews(self):
        house = House(("k", "l", "n"), {"a": ("k",), "b": ("l",), "c": ("n",), "d": ("k", "l")})
        wish = grid(house, {"c": 1, "d": 1})
        self.assertEqual(least_crews(house, wish, (), (wish.after(("c", "d")),)), (("k", "l", "n"),))
        self.assertEqual(least_crews(house, wish, (), (wish.after(("c",)), wish.after(("d",)))), (("k", "l"), ("n",)))
        self.assertEqual(least_crews(house, wish, ("c",), (wish.after(("c", "d")),)), (("k", "l"),))
        self.assertEqual(plan(house, wish, ("a", "c"), (wish.after(("c", "d")),), ("k", "l")), ("d",))

    def test_hands_without_deeds(self):
        house = House(("j", "l", "r"), {"a": ("l",), "b": ("r",), "m": ("l", "r")})
        for row in again.all_rows(("a", "b", "m"), 2):
            for states in ((0,), (3,), (1, 2)):
                self.assertEqual(least_crews(house, calm(), row, states), least_crews(duo(), calm(), row, states))
                self.assertIs(is_crew(house, calm(), row, states, ("j", "l")), is_crew(duo(), calm(), row, states, ("l",)))

    def test_five_hands(self):
        house = House(tuple("abcde"), {hand: (hand,) for hand in "abcde"})
        wish = grid(house, {"a": 1, "b": 1, "c": 1, "d": 2})
        last = wish.after(tuple("abcdd"))
        self.assertEqual(least_crews(house, wish, ("e",) * 300, (last,)), (("a", "b", "c", "d"),))
        self.assertEqual(plan(house, wish, (), (last,), house.hands), ("a", "b", "c", "d", "d"))


class Plans(Case):
    def test_against_all_short_rows(self):
        rng = Random(4)
        sizes = set()
        for house, wish, row in drawn(rng):
            size = 4 if len(house.deeds) < 6 else 3
            for states in some_sets(rng, wish):
                for hands in again.subsets(house.hands):
                    found = plan(house, wish, row, states, hands)
                    self.assertIs(found is not None, is_crew(house, wish, row, states, hands))
                    wanted = first_plan(house, wish, row, states, hands, size)
                    if wanted is None:
                        self.assertTrue(found is None or len(found) > size)
                    else:
                        self.assertEqual(found, wanted)
                    sizes.add(None if found is None else len(found))
        self.assertTrue({None, 0, 1, 2, 3} <= sizes, sizes)

    def test_long_plans(self):
        wish = turning(crowd(), 24, {})
        for hand, deed in (("a", "on"), ("e", "fi")):
            self.assertEqual(plan(crowd(), wish, ("cd",) * 2, (1,), (hand,)), (deed,) * 23)
        self.assertEqual(plan(crowd(), wish, (), (5,), crowd().hands), ("ac",) * 5)
        self.assertEqual(plan(crowd(), wish, again.random_row(Random(5), crowd().deeds, 3000), tuple(range(24)), ()), ())


class Gifts(Case):
    def test_houses(self):
        for house, _ in givers():
            for gifts in all_gifts(house):
                self.assertEqual(gifted(house, gifts), house_of(house, gifts))
        self.assertEqual([gifted(duo(), ()), gifted(duo(), (("m", "r"),))], [duo(), duo().given("m", "r")])

    def test_good_ones(self):
        answers = []
        for house, wish in givers():
            for gifts in all_gifts(house):
                other = house_of(house, gifts)
                answers.append(all(
                    wish[wish[state, one], two] == wish[wish[state, two], one]
                    for one, two in other.apart for state in range(len(wish))
                ))
                self.assertIs(is_good(house, wish, gifts), answers[-1])
        self.assertTrue(100 < sum(answers) < len(answers) - 100)

    def test_fewer_than_good_ones(self):
        for house, wish in givers():
            good = {gifts for gifts in all_gifts(house) if is_good(house, wish, gifts)}
            self.assertIn((), good)
            for gifts in good:
                for gift in gifts:
                    self.assertIn(tuple(other for other in gifts if other != gift), good)

    def test_greatest_ones(self):
        sizes = set()
        for house, wish in givers():
            good = [gifts for gifts in all_gifts(house) if is_good(house, wish, gifts)]
            greatest = [one for one in good if not any(set(one) < set(other) for other in good)]
            self.assertEqual(greatest_gifts(house, wish), tuple(sorted(greatest)))
            sizes.add(len(greatest))
        self.assertTrue({1, 2, 4} <= sizes, sizes)

    def test_each_deed_alone_but_not_all_at_once(self):
        # x can be given to k, and y to n, but not both: then they were apart.
        house = House(("k", "n"), {"x": ("k", "n"), "y": ("k", "n")})
        wish = Wish(("x", "y"), ((1, 2), (1, 1), (2, 2)), (1,))
        for gifts in ((("x", "k"),), (("y", "n"),)):
            self.assertIs(is_good(house, wish, gifts), True)
        self.assertIs(is_good(house, wish, (("x", "k"), ("y", "n"))), False)
        wanted = ((("x", "k"), ("y", "k")), (("x", "n"), ("y", "n")))
        self.assertEqual(greatest_gifts(house, wish), wanted)

    def test_deeds_of_one_hand_alone(self):
        house = House(("k", "l"), {"a": ("k",), "b": ("l",)})
        self.assertEqual(greatest_gifts(house, turning(house, 3, {})), ((),))
        self.assertEqual(against(house, turning(house, 3, {}), ()), ())
        self.assertEqual(gifted(house, ()), house)

    def shared(self, many):
        return House(("l", "r"), {deed: ("l", "r") for deed in "abcdefgh"[:many]})

    def test_more_than_200(self):
        self.assertEqual(module.MAX_FAMILY, 200)
        for size in (1, 2, 24):
            self.assertEqual(len(greatest_gifts(self.shared(7), turning(self.shared(7), size, {}))), 128)
            self.too_many(200, greatest_gifts, self.shared(8), turning(self.shared(8), size, {}))
        # a and b do not go together, so each of six others leaves four ways for both of them, less those where they part.
        house = self.shared(8)
        ends = [[0 if deed not in "ab" else 1 + (deed == "b") for deed in house.deeds], [1] * 8, [2] * 8]
        wish = Wish(house.deeds, tuple(tuple(row) for row in ends), (1,))
        found = greatest_gifts(house, wish)
        self.assertEqual([len(found), len(set(found)), found == tuple(sorted(found))], [128, 128, True])
        for gifts in found:
            self.assertEqual(dict(gifts)["a"], dict(gifts)["b"])

    def test_just_the_limit(self):
        for many in (3, 4):
            wish = turning(self.shared(many), 3, {})
            with patch.object(module, "MAX_FAMILY", 2 ** many):
                self.assertEqual(len(greatest_gifts(self.shared(many), wish)), 2 ** many)
            with patch.object(module, "MAX_FAMILY", 2 ** many - 1):
                self.too_many(2 ** many - 1, greatest_gifts, self.shared(many), wish)


class Against(Case):
    def wanted(self, house, wish, gifts):
        """The further gifts with which the gifts are not good."""
        given = [deed for deed, _ in gifts]
        further = [(deed, hand) for deed in house.deeds if deed not in given and len(house[deed]) == 2 for hand in house[deed]]
        return [gift for gift in further if not is_steady(house_of(house, gifts + (gift,)), wish)]

    def test_of_all_good_ones(self):
        sizes = set()
        for house, wish in givers():
            for gifts in all_gifts(house):
                if is_good(house, wish, gifts):
                    found = against(house, wish, gifts)
                    self.assertEqual([type(found), [gift for gift, _ in found]], [tuple, self.wanted(house, wish, gifts)])
                    for gift, shown in found:
                        self.assertIs(is_breach(house_of(house, gifts + (gift,)), wish, shown), True)
                    self.assertIs(is_against(house, wish, gifts, found), True)
                    sizes.add(len(found))
        self.assertTrue({0, 1, 2, 3} <= sizes)

    def test_of_greatest_ones(self):
        # What is not given by the greatest ones can't be given, too.
        for house, wish in givers():
            for gifts in greatest_gifts(house, wish)[:5]:
                left = sum(2 for deed in house.deeds if len(house[deed]) == 2 and deed not in dict(gifts))
                self.assertEqual(len(against(house, wish, gifts)), left)

    def test_other_breaches(self):
        for house, wish in givers():
            found = against(house, wish, ())
            for place, (gift, shown) in enumerate(found):
                other_house = house_of(house, (gift,))
                for row, at in list(again.breaches(other_house, wish, 4))[:20]:
                    other = found[:place] + ((gift, (row, at)),) + found[place + 1:]
                    self.assertIs(is_against(house, wish, (), other), True)
                for bent in ((shown[0], shown[1] + 1), (shown[0] + shown[0], shown[1]), (shown[0][::-1], shown[1]), ((), 0)):
                    other = found[:place] + ((gift, bent),) + found[place + 1:]
                    self.assertIs(is_against(house, wish, (), other), is_breach(other_house, wish, bent))

    def test_other_gifts_and_orders(self):
        several = 0
        for house, wish in givers():
            found = against(house, wish, ())
            self.assertIs(is_against(house, wish, (), ()), found == ())
            for place in range(len(found)):
                self.assertIs(is_against(house, wish, (), found[:place] + found[place + 1:]), False)
                self.assertIs(is_against(house, wish, (), found + found[place:place + 1]), False)
            if len(found) > 1:
                several += 1
                self.assertIs(is_against(house, wish, (), found[::-1]), False)
                self.assertIs(is_against(house, wish, (), (found[1], found[0]) + found[2:]), False)
                mixed = ((found[0][0], found[1][1]),) + found[1:]
                self.assertIs(is_against(house, wish, (), mixed), is_breach(house_of(house, found[0][:1]), wish, found[1][1]))
        self.assertGreater(several, 5)

    def test_values_of_other_kinds(self):
        found = against(duo(), calm(), ())
        (left, one), (right, two) = found
        self.assertEqual([left, right], [("m", "l"), ("m", "r")])
        values = [list(found), [found[0], found[1]], (list(found[0]), found[1]), (found[0],), dict(found), (left, right), (one, two)]
        values += [((list(left), one), found[1]), ((left, list(one)), found[1]), ((left, one, 0), found[1]), ((left,), found[1])]
        values += [((left, None), found[1]), ((left, (list(one[0]), one[1])), found[1]), ((("m", "z"), one), found[1]), None]
        values += [((left, (one[0], True)), found[1]), ((left, (one[0], None)), found[1]), ((one, left), found[1]), ((0, one), found[1])]
        for odd in values + odd_values() + [(odd, found[1]) for odd in odd_values()] + [((odd, one), found[1]) for odd in odd_values()]:
            self.assertIs(is_against(duo(), calm(), (), odd), False)
        for odd in odd_values():
            self.assertIs(is_against(duo(), calm(), (), ((left, odd), found[1])), False)
            self.assertIs(is_against(duo(), even(), (("m", "l"),), odd), odd == () and type(odd) is tuple)

    def test_true_is_not_one(self):
        row = ("a", "m", "b")
        found = against(duo(), once(), ())
        self.assertIs(is_breach(duo().given("m", "l"), once(), (row, 1)), True)
        self.assertIs(is_against(duo(), once(), (), ((("m", "l"), (row, 1)),) + found[1:]), True)
        self.assertIs(is_against(duo(), once(), (), ((("m", "l"), (row, True)),) + found[1:]), False)

    def test_long_breaches(self):
        row = ("m",) * 5000 + ("a", "m", "b")
        found = against(duo(), once(), ())
        self.assertIs(is_against(duo(), once(), (), ((("m", "l"), (row, 5001)),) + found[1:]), True)
        self.assertIs(is_against(duo(), once(), (), ((("m", "l"), (row, 5000)),) + found[1:]), False)


class Errors(Case):
    # Each call with what stands between a wish and a set of states in it, and what follows.
    plans = ((is_crew, ((),)), (least_crews, ()), (plan, ((),)))
    gifts = ((is_good, ((),)), (greatest_gifts, ()), (against, ((),)), (is_against, ((), None)))

    def no_gifts(self):
        values = [[("m", "l")], ("m", "l"), (["m", "l"],), (("m",),), (("m", "l", "r"),), (("a", "l"),), (("m", "z"),), (("z", "l"),)]
        values += [(("m", "l"), ("m", "r")), (("m", "l"), ("m", "l")), {("m", "l"): 1}, "ml", (("l", "m"),), ((None, "l"),), (("m", None),)]
        values += [(("m", ["l"]),), ((["m"], "l"),), (("m", ("l",)),), ((("m",), "l"),), (("b", "r"),), (("m", "l"), None), (None,), ("ml",)]
        return values + [odd for odd in odd_values() if odd != ()] + [(("m", odd),) for odd in odd_values()]

    def test_gifts_that_are_none(self):
        for odd in self.no_gifts():
            self.caught(InvalidOperation, gifted, duo(), odd)
            self.caught(InvalidOperation, is_good, duo(), calm(), odd)
            self.caught(InvalidOperation, against, duo(), calm(), odd)
            self.caught(InvalidOperation, is_against, duo(), calm(), odd, ())
            for call, more in ((is_good, ()), (against, ()), (is_against, (None,))):
                self.caught(InvalidOperation, call, duo(), first(), odd, *more)
        for odd in ((("y", "q"), ("x", "p")), (("x", "p"), ("x", "q")), (("x", "r"),), (("y", "p"),), (("a", "p"), ("x", "p"))):
            self.caught(InvalidOperation, gifted, line(), odd)
        self.assertEqual(gifted(line(), (("x", "p"), ("y", "q"))).links, ())

    def test_house_and_wish(self):
        for odd in odd_values_but(House):
            self.caught(InvalidHouse, gifted, odd, ())
            self.caught(InvalidHouse, gifted, odd, odd)
            for call, more in self.plans:
                self.caught(InvalidHouse, call, odd, calm(), (), (), *more)
                self.caught(InvalidHouse, call, odd, odd, odd, odd, *[odd for _ in more])
            for call, more in self.gifts:
                self.caught(InvalidHouse, call, odd, calm(), *more)
                self.caught(InvalidHouse, call, odd, odd, *[odd for _ in more])
        for odd in odd_values_but(Wish):
            for call, more in self.plans:
                self.caught(InvalidWish, call, duo(), odd, (), (), *more)
                self.caught(InvalidWish, call, line(), odd, odd, odd, *[odd for _ in more])
            for call, more in self.gifts:
                self.caught(InvalidWish, call, duo(), odd, *more)
                self.caught(InvalidWish, call, line(), odd, *[odd for _ in more])

    def test_row(self):
        for odd in odd_values() + ["a", ["a"], ("z",), ("a", ["b"]), ("l",), {}, []]:
            for call, more in self.plans:
                self.caught(InvalidRow, call, duo(), calm(), odd, (), *more)
                self.caught(InvalidRow, call, line(), first(), odd, odd, *[odd for _ in more])

    def test_states_and_hands(self):
        for call, more in self.plans:
            for odd in no_states(4):
                self.caught(InvalidOperation, call, duo(), calm(), (), odd, *more)
            for odd in no_states(3):
                self.caught(InvalidOperation, call, duo(), first(), (), odd, *more)
        for call in (is_crew, plan):
            for odd in no_hands():
                self.caught(InvalidOperation, call, duo(), calm(), ("a",), (), odd)
                self.caught(InvalidOperation, call, duo(), first(), ("a",), (), odd)

    def test_belongs_and_steady(self):
        for wish in (calm(), first()):
            for house in (line(), duo().with_deed("c", ("l",))):
                for call, more in self.plans:
                    self.caught(InvalidOperation, call, house, wish, (), (), *more)
                for call, more in self.gifts:
                    self.caught(InvalidOperation, call, house, wish, *more)
        for call, more in [(call, ((), ()) + more) for call, more in self.plans] + list(self.gifts):
            found = self.caught(Unsteady, call, duo(), first(), *more).breach
            self.assertIs(is_breach(duo(), first(), found), True)
            self.caught(Unsteady, call, duo().given("m", "r"), once(), *more)

    def test_gifts_that_are_not_good(self):
        for gifts in ((("m", "l"),), (("m", "r"),)):
            self.assertIs(is_good(duo(), calm(), gifts), False)
            self.caught(InvalidOperation, against, duo(), calm(), gifts)
            for odd in odd_values() + [()]:
                self.caught(InvalidOperation, is_against, duo(), calm(), gifts, odd)
            self.caught(Unsteady, against, duo(), first(), gifts)
            self.caught(Unsteady, is_against, duo(), first(), gifts, ())

    def test_nothing_that_is_passed_is_changed(self):
        house, wish = duo(), calm()
        found = against(house, wish, ())
        self.assertEqual([against(house, wish, ()), greatest_gifts(house, wish)], [found, ((),)])
        self.assertEqual([house, wish, breach(house, wish)], [duo(), calm(), None])

    def test_all_houses(self):
        for house in many_houses():
            wish = turning(house, 1, {})
            found = greatest_gifts(house, wish)
            self.assertEqual(len(found), 2 ** sum(len(house[deed]) == 2 for deed in house.deeds))
            self.assertEqual(against(house, wish, found[0]), ())
