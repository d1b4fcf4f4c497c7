"""[17.2], stage 17: the greatest gifts of drawn houses and wishes, by all sets of gifts one by one, and quickly."""

from itertools import combinations, product
from random import Random
from time import perf_counter
from unittest.mock import patch

from eachshare.base.houses import House
from eachshare.errors import InvalidOperation, Unsteady
from eachshare.put import crews as module
from eachshare.put.crews import greatest_gifts, is_good
from eachshare.share.steady import is_breach
from eachshare.wish.wishes import Wish
from tests import again
from tests.samples import Case, first, many_houses, steady, turning

# Far more than the call takes, and far less than it would if it put all sets of gifts together.
QUICK = 0.02


def shared(many):
    """A house with so many deeds, all of the same two hands."""
    return House(("l", "r"), {deed: ("l", "r") for deed in "abcdefgh"[:many]})


def still(house):
    """The wish of one state, which has all rows."""
    return Wish(house.deeds, ((0,) * len(house.deeds),), (0,))


def drawn_house(rng, most):
    """A house with up to so many deeds, most of them of two hands."""
    names = rng.sample("klnpqrst", rng.choice((2, 2, 2, 3, 4, 5)))
    links = [tuple(sorted(names[:2]))]
    for place in range(2, len(names)):
        if rng.random() < 0.8:
            links.append(tuple(sorted((names[place], rng.choice(names[:place])))))
    deeds = {}
    for deed in "abcdefgh"[:rng.choice((2, most - 1, most, most))]:
        deeds[deed] = rng.choice(links) if rng.random() < 0.9 else (rng.choice(names),)
    return House(tuple(sorted(names)), deeds)


def drawn_bars(rng, house):
    """Some deeds of a house, and some pairs of these that are not apart."""
    share = rng.choice((0.2, 0.4, 0.6, 0.8))
    heard = rng.sample(house.deeds, rng.randint(1, len(house.deeds)))
    pairs = [set(pair) for pair in combinations(heard, 2) if not again.are_apart(house, *pair)]
    return heard, [pair for pair in pairs if rng.random() < share]


def barring(house, heard, bars):
    """The wish that all deeds that are heard came an even number of times; None if it has more than 24 states.

    A deed of one of the bars is not heard where the other one came an odd number of times. So both do not commute, and
    all other deeds do. Each state has its own set of deeds that came so, by which alone it leads to the kept one.
    """
    states, ends = [set()], []
    for state in states:
        row = []
        for deed in house.deeds:
            more = state ^ {deed}
            if deed not in heard or any(bar <= state | {deed} for bar in bars if deed in bar):
                more = state
            if more not in states:
                states.append(more)
            row.append(states.index(more))
        ends.append(tuple(row))
        if len(states) > 24:
            return None
    return Wish(house.deeds, tuple(ends), (0,))


def drawn(seed, many, most):
    """So many pairs of a drawn house and a wish that is steady for it."""
    rng = Random(seed)
    found = []
    while len(found) < many:
        house = drawn_house(rng, most)
        wish = barring(house, *drawn_bars(rng, house))
        if wish is not None:
            found.append((house, wish))
    return found


def pairs_that_commute(wish):
    """The sets of two deeds that lead each state in both orders to the same state."""
    states = range(len(wish))
    return [
        {one, other} for one, other in combinations(wish.deeds, 2)
        if all(wish[wish[state, one], other] == wish[wish[state, other], one] for state in states)
    ]


def good_ones(house, wish):
    """All sets of gifts, one by one, by which no two deeds are apart that do not commute."""
    choices = [[house[deed]] + [(hand,) for hand in house[deed] if len(house[deed]) == 2] for deed in house.deeds]
    together = pairs_that_commute(wish)
    bound = [pair for pair in combinations(range(len(choices)), 2) if {house.deeds[place] for place in pair} not in together]
    for hands in product(*choices):
        if all(set(hands[one]) & set(hands[other]) for one, other in bound):
            told = list(zip(house.deeds, hands))
            yield tuple((deed, some[0]) for deed, some in told if len(some) < len(house[deed]))


def greatest_ones(house, wish):
    """The good sets of gifts that are contained in no other good one, ascending."""
    good = list(good_ones(house, wish))
    contained = {fewer for gifts in good for many in range(len(gifts)) for fewer in combinations(gifts, many)}
    return tuple(sorted(gifts for gifts in good if gifts not in contained))


class Greatest(Case):
    def same(self, house, wish):
        """The answer or the error must be that of the second working-out, whose result is returned."""
        wanted = greatest_ones(house, wish)
        if len(wanted) > 200:
            self.too_many(200, greatest_gifts, house, wish)
        else:
            self.assertEqual(greatest_gifts(house, wish), wanted)
        return wanted

    def test_small_houses(self):
        sizes = {len(self.same(house, wish)) for house, wish in drawn(1, 600, 5)}
        self.assertTrue({1, 2, 3, 4, 6, 8, 10, 12, 16, 32} <= sizes, sizes)

    def test_great_houses(self):
        many = [len(self.same(house, wish)) for house, wish in drawn(2, 150, 8)]
        self.assertTrue({1, 2, 8, 64, 128} <= set(many), many)
        self.assertGreater(sum(size > 200 for size in many), 5)
        # Powers of 2 come of deeds that hang on one another in no way; there are others.
        self.assertGreater(sum(size & (size - 1) != 0 for size in many), 5)

    def test_wishes_of_other_kinds(self):
        for house, wish in steady(63, each=6) + [(house, turning(house, 4, {})) for house in many_houses()]:
            self.same(house, wish)

    def test_those_that_are_good(self):
        # The second working-out itself, by what the program says of each set of gifts alone.
        for house, wish in drawn(3, 40, 5):
            good = set(good_ones(house, wish))
            for gifts in again.subsets([(deed, hand) for deed in house.deeds for hand in house[deed] if len(house[deed]) == 2]):
                if len({deed for deed, _ in gifts}) == len(gifts):
                    self.assertIs(is_good(house, wish, gifts), gifts in good)

    def test_families_of_several_sizes(self):
        # a shares n with the whole of c, but not k, and s is not shared by the whole of a.
        house = House(("k", "n", "s"), {"a": ("k", "n"), "b": ("k", "n"), "c": ("n", "s")})
        wish = barring(house, "abc", [{"a", "b"}, {"a", "c"}])
        wanted = ((("a", "n"), ("b", "n"), ("c", "n")), (("b", "k"), ("c", "n")))
        self.assertEqual([greatest_ones(house, wish), greatest_gifts(house, wish)], [wanted, wanted])

    def test_deeds_that_part_in_a_line(self):
        # Of four deeds each parts from the next one, so one is not given where its neighbours have different hands.
        house = shared(4)
        wish = barring(house, "abcd", [{"a", "b"}, {"b", "c"}, {"c", "d"}])
        told = ["llll", "ll-r", "l-rr", "rr-l", "r-ll", "rrrr"]
        wanted = [tuple((deed, hand) for deed, hand in zip("abcd", hands) if hand != "-") for hands in told]
        self.assertEqual(greatest_gifts(house, wish), tuple(sorted(wanted)))
        self.assertEqual(greatest_ones(house, wish), tuple(sorted(wanted)))

    def test_gifts_that_are_good_for_no_hand(self):
        house = House(("k", "l", "n"), {"a": ("k",), "m": ("k", "l"), "n": ("l", "n"), "z": ("n",)})
        wish = barring(house, "amnz", [{"a", "m"}, {"m", "n"}, {"n", "z"}])
        self.assertEqual(self.same(house, wish), ((),))


class Limits(Case):
    def test_just_the_limit(self):
        sizes = set()
        for house, wish in drawn(4, 120, 6):
            wanted = greatest_ones(house, wish)
            sizes.add(len(wanted))
            with patch.object(module, "MAX_FAMILY", len(wanted)):
                self.assertEqual(greatest_gifts(house, wish), wanted)
            with patch.object(module, "MAX_FAMILY", len(wanted) - 1):
                self.too_many(len(wanted) - 1, greatest_gifts, house, wish)
        self.assertTrue({1, 2, 4, 6, 8, 16, 24} <= sizes, sizes)

    def test_128_and_256(self):
        eight, deeds = shared(8), "abcdefgh"
        parted = barring(eight, "ah", [{"a", "h"}])
        found = greatest_gifts(eight, parted)
        self.assertEqual([len(found), found], [128, greatest_ones(eight, parted)])
        single = House(("l", "r"), {**{deed: ("l", "r") for deed in deeds[1:]}, "a": ("l",)})
        self.assertEqual(len(greatest_gifts(single, barring(single, "abcd", []))), 128)
        tied = barring(single, "ah", [{"a", "h"}])
        self.assertEqual(greatest_gifts(single, tied), greatest_ones(single, tied))
        self.assertEqual(len(greatest_gifts(single, tied)), 64)
        for heard in ("", "h", "adgh"):
            self.too_many(200, greatest_gifts, eight, barring(eight, heard, []))

    def test_many_behind_every_other_error(self):
        house = shared(8)
        self.too_many(200, greatest_gifts, house, still(house))
        self.caught(InvalidOperation, greatest_gifts, house, still(shared(7)))
        apart = House(("l", "n", "r"), {**{deed: ("l", "r") for deed in "cdefgh"}, "a": ("l",), "b": ("n",)})
        wish = barring(apart, "ab", [{"a", "b"}])
        self.assertIs(is_breach(apart, wish, self.caught(Unsteady, greatest_gifts, apart, wish).breach), True)
        self.caught(InvalidOperation, greatest_gifts, house, first())


class Quickly(Case):
    def quickest(self, house, wish, limit):
        """The least time of some calls, so that a busy machine does not count, and what the last one returned."""
        times = []
        for _ in range(5):
            begun = perf_counter()
            if limit is None:
                found = greatest_gifts(house, wish)
            else:
                self.too_many(limit, greatest_gifts, house, wish)
                found = None
            times.append(perf_counter() - begun)
        return min(times), found

    def test_eight_deeds_of_two_hands(self):
        house = shared(8)
        wish = Wish(("a", "b", "c", "d", "e", "f", "g", "h"), ((0, 0, 0, 0, 0, 0, 0, 0),), (0,))
        time, _ = self.quickest(house, wish, 200)
        self.assertLess(time, QUICK)
        self.assertEqual(len(greatest_ones(house, wish)), 256)

    def test_seven_deeds_of_two_hands(self):
        house = shared(7)
        wish = Wish(("a", "b", "c", "d", "e", "f", "g"), ((0,) * 7,), (0,))
        time, found = self.quickest(house, wish, None)
        self.assertLess(time, QUICK)
        self.assertEqual([len(found), found], [128, greatest_ones(house, wish)])
        self.assertEqual([found[0], found[-1]], [tuple((deed, hand) for deed in "abcdefg") for hand in "lr"])

    def test_wishes_of_many_states(self):
        for size in (2, 24):
            self.assertLess(self.quickest(shared(8), turning(shared(8), size, {}), 200)[0], QUICK)
            self.assertLess(self.quickest(shared(7), turning(shared(7), size, {}), None)[0], QUICK)

    def test_drawn_ones(self):
        for house, wish in drawn(5, 60, 8):
            limit = 200 if len(greatest_ones(house, wish)) > 200 else None
            self.assertLess(self.quickest(house, wish, limit)[0], QUICK)
