"""[0.13], stage 5: steady wishes and their breaches."""

from itertools import combinations
from random import Random

from eachshare.base.houses import House
from eachshare.errors import InvalidHouse, InvalidOperation, InvalidWish
from eachshare.share.steady import breach, commuting, is_breach, is_steady
from eachshare.wish.wishes import Wish
from tests import again
from tests.samples import Case, calm, crowd, duo, even, first, line, many_houses, odd_values, odd_values_but, once

ABM = ("a", "b", "m")


def small():
    """Houses and wishes of them, some of which are steady; no breach of one needs more than six deeds."""
    rng = Random(1)
    houses = [duo(), duo().given("m", "l"), duo().given("m", "r"), House(("l",), {deed: ("l",) for deed in ABM})]
    houses += [House(("k", "l", "n"), {"a": ("k",), "b": ("l",), "m": ("n",)})]
    wishes = [even(), once(), calm(), first(), ~calm(), even() & once()]
    wishes += [Wish(*again.random_machine(rng, ABM, 3)) for _ in range(40)]
    wishes += [late(0, 1), late(1, 0), late(2, 0), late(1, 2), late(2, 1)]
    return [(house, wish) for house in houses for wish in wishes]


def two_counters(size, many=8):
    """A steady wish with size * size states: a counts one way, each other deed another one."""
    deeds = tuple("abcdefgh"[:many])
    targets = tuple(
        ((one + 1) % size * size + other,) + (one * size + (other + 1) % size,) * (many - 1)
        for one in range(size) for other in range(size)
    )
    return Wish(deeds, targets, (0,))


def late(ahead, behind):
    """A wish whose only rows are so many deeds m, then a and b in just this order, then so many deeds m again."""
    dead = ahead + behind + 3
    line = [(dead, dead, at + 1) for at in range(ahead)]
    line += [(ahead + 1, dead, dead), (dead, ahead + 2, dead)]
    line += [(dead, dead, at + 1) for at in range(ahead + 2, dead - 1)]
    return Wish(ABM, tuple(line) + ((dead,) * 3, (dead,) * 3), (dead - 1,))


class Steady(Case):
    def test_by_short_rows(self):
        answers = []
        for house, wish in small():
            answers.append(not list(again.breaches(house, wish, 6)))
            self.assertIs(is_steady(house, wish), answers[-1], (house, wish))
        self.assertTrue(20 < sum(answers) < len(answers) - 20)

    def test_with_each_row_all_alike_rows(self):
        for house, wish in small()[::3]:
            has = {row: row in wish for row in again.all_rows(ABM, 5)}
            wanted = all(has[other] == has[row] for row in has for other in again.alike(house, row))
            self.assertIs(is_steady(house, wish), wanted)

    def test_in_both_orders(self):
        for house, wish in small():
            ends = [
                (wish.after((one, other), state), wish.after((other, one), state))
                for one, other in house.apart for state in range(len(wish))
            ]
            self.assertIs(is_steady(house, wish), all(end == mate for end, mate in ends))

    def test_operations_keep_it(self):
        steady = [(house, wish) for house, wish in small() if is_steady(house, wish)]
        for house, wish in steady[::2]:
            for other in [other for too, other in steady if too == house][::5]:
                for made in (wish & other, wish | other, wish - other, ~wish):
                    self.assertIs(is_steady(house, made), True)
            if len(wish) < 4:
                self.assertIs(is_steady(house, wish.turned()), True)

    def test_houses_made_of_houses(self):
        for house, wish in small():
            if is_steady(house, wish):
                for one, other in house.links:
                    self.assertIs(is_steady(house.as_one(one, other), wish), True)
            names = {"a": "z", "b": "a", "m": "c"}
            made = house.renamed(hands={house.hands[0]: "zz"}, deeds=names)
            self.assertIs(is_steady(made, wish.renamed(names)), is_steady(house, wish))

    def test_all_rows_and_none(self):
        for house in many_houses():
            ends = (0,) * len(house.deeds)
            for kept in ((), (0,)):
                wish = Wish(house.deeds, (ends,), kept)
                self.assertIs(is_steady(house, wish), True)
                self.assertEqual([breach(house, wish), commuting(wish)], [None, tuple(combinations(house.deeds, 2))])


class Commuting(Case):
    def test_each_pair_in_each_state(self):
        for wish in [wish for _, wish in small()]:
            pairs = combinations(ABM, 2)
            wanted = [
                (one, other) for one, other in pairs
                if all(wish.after((one, other), state) == wish.after((other, one), state) for state in range(len(wish)))
            ]
            self.assertEqual(commuting(wish), tuple(wanted))

    def test_known(self):
        self.assertEqual([commuting(even()), commuting(calm())], [(("a", "b"), ("a", "m"), ("b", "m")), (("a", "b"),)])
        self.assertEqual(commuting(Wish(("a",), ((0,),), ())), ())
        self.assertEqual(commuting(two_counters(4)), tuple(combinations("abcdefgh", 2)))

    def test_steady_exactly_if_apart_ones_are_among_them(self):
        for house, wish in small():
            self.assertIs(is_steady(house, wish), set(house.apart) <= set(commuting(wish)))


class Breach(Case):
    def test_as_few_deeds_as_possible(self):
        sizes = set()
        for house, wish in small():
            found = breach(house, wish)
            known = list(again.breaches(house, wish, 6))
            self.assertIs(found is None, not known)
            if known:
                self.assertIn(found, known)
                self.assertEqual(len(found[0]), len(known[0][0]))
                sizes.add(len(found[0]))
                self.assertEqual([type(found), type(found[0]), type(found[1])], [tuple, tuple, int])
        self.assertEqual(sizes, {2, 3, 4, 5})

    def test_long(self):
        for ahead, behind in ((0, 0), (0, 20), (20, 0), (9, 11), (15, 3)):
            wish = late(ahead, behind)
            wanted = [("m",) * ahead + pair + ("m",) * behind for pair in (("a", "b"), ("b", "a"))]
            self.assertEqual(len(wish), ahead + behind + 4)
            self.assertIn(breach(duo(), wish), [(row, ahead) for row in wanted])
            self.assertTrue(all(is_breach(duo(), wish, (row, ahead)) for row in wanted))

    def test_many_states(self):
        wish = two_counters(4)
        self.assertEqual([len(wish), breach(crowd(), wish.renamed(dict(zip("abcdefgh", crowd().deeds))))], [16, None])
        rng = Random(2)
        targets = tuple(tuple(rng.randrange(24) for _ in range(8)) for _ in range(24))
        wish = Wish(crowd().deeds, targets, (1, 5, 7, 20))
        self.assertEqual(len(wish), 24)
        for _ in range(20):
            self.assertIs(is_breach(crowd(), wish, breach(crowd(), wish)), True)

    def test_equal_calls(self):
        for house, wish in small():
            self.assertEqual(breach(house, wish), breach(house, wish))


class Judged(Case):
    def test_all_short_rows(self):
        for house, wish in small()[::4]:
            known = set(again.breaches(house, wish, 4))
            for row in again.all_rows(ABM, 4):
                for place in range(-1, len(row) + 1):
                    self.assertIs(is_breach(house, wish, (row, place)), (row, place) in known)

    def test_longer_ones(self):
        for house, wish in small():
            found = breach(house, wish)
            if found is not None:
                row, place = found
                self.assertIs(is_breach(house, wish, (again.exchanged(row, place), place)), True)
                for head, tail in (((), ("a",)), ((), ("m",) * 300), (("m", "m"), ()), (("a",) * 400, ("b",))):
                    more = (head + row + tail, len(head) + place)
                    other = again.exchanged(*more)
                    self.assertIs(is_breach(house, wish, more), (more[0] in wish) != (other in wish))

    def test_a_breach_of_thousands_of_deeds(self):
        row = ("m",) * 5000 + ("b", "a") + ("a", "b", "m") * 5000
        self.assertEqual([is_breach(duo(), first(), (row, place)) for place in (4999, 5000, 5001, 5002)], [False, True, False, False])

    def test_other_places(self):
        row = ("m", "b", "a", "a")
        for odd in odd_values() + [0, 2, 3, 4, -3, "1", (1,), [1], {1: 1}]:
            self.assertIs(is_breach(duo(), first(), (row, odd)), type(odd) is int and odd == 1)

    def test_true_is_no_place(self):
        self.assertIs(is_breach(duo(), first(), (("m", "b", "a"), 1)), True)
        self.assertIs(is_breach(duo(), first(), (("m", "b", "a"), True)), False)
        self.assertIs(is_breach(duo(), first(), (("b", "a"), 0)), True)
        self.assertIs(is_breach(duo(), first(), (("b", "a"), False)), False)

    def test_other_forms(self):
        row = ("b", "a")
        values = [[row, 0], (list(row), 0), (row,), (row, 0, 0), (0, row), ("ba", 0), ((row, 0),), {row: 0}, row, (), [], {}]
        values += [("breach", row, 0), (("b", "z"), 0), (("b", ["a"]), 0), (("b", "l"), 0), ((row,), 0), None]
        for odd in values + odd_values() + [(odd, 0) for odd in odd_values()] + [(("b", "a", odd), 0) for odd in odd_values()]:
            self.assertIs(is_breach(duo(), first(), odd), False)

    def test_deeds_that_are_not_apart(self):
        wish = Wish.of_rows(ABM, (("a", "m"),))
        self.assertIs(is_breach(duo(), wish, (("a", "m"), 0)), False)
        self.assertIs(is_breach(duo().given("m", "r"), wish, (("a", "m"), 0)), True)


class Errors(Case):
    calls = (is_steady, breach, lambda house, wish: is_breach(house, wish, None))

    def test_house(self):
        for call in self.calls:
            for odd in odd_values_but(House) + ["l", (), {}]:
                self.caught(InvalidHouse, call, odd, even())
                self.caught(InvalidHouse, call, odd, odd)

    def test_wish(self):
        for call in self.calls:
            for odd in odd_values_but(Wish) + ["a", (), {}]:
                self.caught(InvalidWish, call, duo(), odd)
                self.caught(InvalidWish, call, line(), odd)
        for odd in odd_values_but(Wish) + ["a", (), {}]:
            self.caught(InvalidWish, commuting, odd)

    def test_a_wish_of_another_house(self):
        for call in self.calls:
            self.caught(InvalidOperation, call, line(), even())
            self.caught(InvalidOperation, call, duo().with_deed("c", ("l",)), even())
            self.caught(InvalidOperation, call, duo().without_deed("a"), even())
            self.caught(InvalidOperation, call, duo(), even().renamed({"a": "c"}))

    def test_whatever_the_value_is(self):
        for odd in odd_values():
            self.caught(InvalidHouse, is_breach, None, even(), odd)
            self.caught(InvalidWish, is_breach, duo(), None, odd)
            self.caught(InvalidOperation, is_breach, line(), even(), odd)

    def test_names_of_hands_do_not_matter(self):
        self.assertIs(is_steady(duo().renamed(hands={"l": "x", "r": "a"}), even()), True)
