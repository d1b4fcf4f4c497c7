"""[0.7], stage 2: which houses there are, and what they tell."""

from itertools import permutations

from eachshare.base import houses as module
from eachshare.base.houses import House
from eachshare.errors import InvalidHouse, InvalidName
from tests import trees
from tests.samples import Case, duo, groves, houses, line, nested_values, odd_values, snake, told

EIGHT = ("a", "b", "c", "d", "e", "f", "g", "h")


class Limits(Case):
    def test_constants(self):
        self.assertEqual((module.MAX_HANDS, module.MAX_DEEDS), (5, 8))

    def test_one_to_five_hands_one_to_eight_deeds(self):
        for hands in range(1, 6):
            for deeds in range(1, 9):
                doers = {EIGHT[at]: (EIGHT[at % hands],) for at in range(deeds)}
                house = House(EIGHT[:hands], doers)
                self.assertEqual((house.hands, house.deeds), (EIGHT[:hands], EIGHT[:deeds]))
                self.assertEqual(str(house), f"house of {hands} hands, {deeds} deeds")
                self.assertEqual(len(house), hands)

    def test_hands(self):
        self.caught(InvalidHouse, House, (), {"a": ()})
        self.caught(InvalidHouse, House, (), {})
        self.caught(InvalidHouse, House, EIGHT[:6], {"a": ("a",)})
        self.caught(InvalidHouse, House, EIGHT, {"a": ("a",)})

    def test_deeds(self):
        self.caught(InvalidHouse, House, ("l",), {})
        self.caught(InvalidHouse, House, ("l",), {name: ("l",) for name in EIGHT + ("i",)})
        self.caught(InvalidHouse, House, ("l",), {name * 2: ("l",) for name in EIGHT + ("i", "j", "k")})

    def test_hands_of_a_deed(self):
        self.caught(InvalidHouse, House, ("l", "r"), {"a": ()})
        self.caught(InvalidHouse, House, ("l", "r"), {"a": ("l",), "b": ()})
        self.caught(InvalidHouse, House, ("l", "n", "r"), {"a": ("l", "n", "r")})
        self.assertEqual(House(("l", "r"), {"a": ("l", "r")})["a"], ("l", "r"))

    def test_names_of_one_and_eight_letters(self):
        house = House(("l", "overlong"), {"d": ("l",), "deeddeed": ("l", "overlong")})
        self.assertEqual(house["deeddeed"], ("l", "overlong"))
        self.caught(InvalidHouse, House, ("overlongx",), {"d": ("overlongx",)})
        self.caught(InvalidName, House, ("l",), {"deeddeedx": ("l",)})

    def test_hands_and_deeds_of_one_name(self):
        house = House(("a", "b"), {"a": ("b",), "b": ("a", "b")})
        self.assertEqual([house["a"], house["b"], house.deeds_of("a")], [("b",), ("a", "b"), ("b",)])


class WrongHands(Case):
    def test_order_and_repeats(self):
        for hands in [("r", "l"), ("l", "l"), ("l", "l", "r"), ("l", "r", "r"), ("l", "r", "l"), ("l", "z", "r")]:
            self.caught(InvalidHouse, House, hands, {"a": ("l",)})

    def test_other_values(self):
        for hands in odd_values() + ["l", "lr", {}, {"l": 1}, ["l", "r"]]:
            self.caught(InvalidHouse, House, hands, {"a": ("l",)})

    def test_other_members(self):
        for odd in odd_values():
            self.caught(InvalidHouse, House, (odd,), {"a": ("l",)})
            self.caught(InvalidHouse, House, ("l", odd), {"a": ("l",)})

    def test_ahead_of_deeds(self):
        for hands in [("r", "l"), (), ["l"], None, EIGHT[:6]]:
            for deeds in [{"A": ("l",)}, {1: 2}, {}, None, []]:
                self.caught(InvalidHouse, House, hands, deeds)


class WrongDeeds(Case):
    def test_other_values(self):
        for deeds in odd_values() + ["l", ("a",), (("a", ("l",)),), ["a"]]:
            wanted = InvalidName if isinstance(deeds, dict) and deeds else InvalidHouse
            self.caught(wanted, House, ("l", "r"), deeds)

    def test_keys_alone(self):
        for key in ["", "A", "a1", "overlongx", "a b", 1, 0, True, None, (), ("a",), ("a", ("b",)), 10 ** 99, "A" * 4000]:
            self.caught(InvalidName, House, ("l", "r"), {key: ("l",)})
            self.caught(InvalidName, House, ("l", "r"), {"a": ("l",), key: ("r",)})
            self.caught(InvalidName, House, ("l", "r"), {key: ("r",), "a": ("l",)})

    def test_keys_beside_other_faults(self):
        nine = {name: ("l",) for name in EIGHT}
        self.caught(InvalidName, House, ("l", "r"), {**nine, "A": ("l",)})
        self.caught(InvalidName, House, ("l", "r"), {"a": (), 1: ("l",)})
        self.caught(InvalidName, House, ("l", "r"), {"a": "l", None: ["l"]})
        self.caught(InvalidName, House, ("l", "r"), {"a": ("r", "l"), "B": 5})
        ring = {"a": ("p", "q"), "b": ("q", "r"), "c": ("p", "r")}
        self.caught(InvalidName, House, ("p", "q", "r"), {**ring, ("d",): ("p",)})

    def test_doers(self):
        for doers in [("r", "l"), ("l", "l"), ("x",), ("l", "x"), ("a", "l"), "l", "lr", ["l"], ["l", "r"], {"l": 1}, {}]:
            self.caught(InvalidHouse, House, ("l", "r"), {"a": doers})
            self.caught(InvalidHouse, House, ("l", "r"), {"a": ("l",), "b": doers})

    def test_doers_of_other_kinds(self):
        for odd in odd_values():
            self.caught(InvalidHouse, House, ("l", "r"), {"a": odd})
            self.caught(InvalidHouse, House, ("l", "r"), {"a": ("l",), "b": odd, "c": ("r",)})
            self.caught(InvalidHouse, House, ("l", "r"), {"a": (odd,)})
            self.caught(InvalidHouse, House, ("l", "r"), {"a": ("l", odd)})
            self.caught(InvalidHouse, House, ("l", "r"), {"a": (odd, "r")})


class Rings(Case):
    def test_three_four_and_five_hands(self):
        for many in (3, 4, 5):
            hands = EIGHT[:many]
            ring = {f"d{one}": (one, other) for one, other in zip(hands, hands[1:])}
            House(hands, ring)
            self.caught(InvalidHouse, House, hands, {**ring, "last": (hands[0], hands[-1])})

    def test_a_ring_beside_other_hands(self):
        ring = {"x": ("b", "d"), "y": ("d", "e"), "z": ("b", "e")}
        self.caught(InvalidHouse, House, EIGHT[:5], ring)
        self.caught(InvalidHouse, House, EIGHT[:5], {**ring, "m": ("a", "c")})

    def test_two_deeds_of_the_same_hands(self):
        house = House(("l", "r"), {"m": ("l", "r"), "n": ("l", "r"), "o": ("l", "r")})
        self.assertEqual(house.links, (("l", "r"),))
        deeds = {"k": ("p", "q"), "l": ("p", "q"), "m": ("q", "r"), "n": ("q", "r")}
        self.assertEqual(House(("p", "q", "r"), deeds).links, (("p", "q"), ("q", "r")))

    def test_every_set_of_links(self):
        for hands, links in trees.graphs():
            deeds = trees.deeds_of_links(hands, links)
            if trees.has_ring(links):
                self.caught(InvalidHouse, House, hands, deeds)
            else:
                self.assertEqual(House(hands, deeds).links, links)


class Trees(Case):
    def test_every_forest(self):
        for hands, links in trees.forests():
            deeds = trees.deeds_of_links(hands, links)
            house = House(hands, deeds)
            for hand in hands:
                self.assertEqual(house.above(hand), trees.above(links, hand), (links, hand))
                self.assertEqual(house.side(hand), trees.side(links, hand), (links, hand))
                self.assertEqual(house.deeds_of(hand), tuple(deed for deed in sorted(deeds) if hand in deeds[deed]))
            self.assertEqual(house.apart, trees.apart(deeds))

    def test_several_trees(self):
        house = groves()
        self.assertEqual([house.above(hand) for hand in house.hands], [None, "a", "a", None, None])
        sides = [("a", "b", "c"), ("b",), ("c",), ("d",), ("e",)]
        self.assertEqual([house.side(hand) for hand in house.hands], sides)
        self.assertEqual(house.links, (("a", "b"), ("a", "c")))
        wanted = (("ab", "d"), ("ab", "two"), ("ac", "d"), ("d", "one"), ("d", "two"), ("one", "two"))
        self.assertEqual(house.apart, wanted)
        self.assertEqual([house.deeds_of("a"), house.deeds_of("e")], [("ab", "ac", "one"), ()])

    def test_a_top_inside_a_line(self):
        house = snake()
        self.assertEqual([house.above(hand) for hand in house.hands], [None, "c", "a", "e", "a"])
        sides = [("a", "b", "c", "d", "e"), ("b",), ("b", "c"), ("d",), ("d", "e")]
        self.assertEqual([house.side(hand) for hand in house.hands], sides)

    def test_no_deeds_apart(self):
        self.assertEqual(House(("l", "r"), {"a": ("l",), "b": ("l",), "m": ("l", "r")}).apart, ())

    def test_apart_both_ways(self):
        for house in houses():
            for one in house.deeds:
                for other in house.deeds:
                    apart = not set(house[one]) & set(house[other])
                    self.assertIs(house.are_apart(one, other), apart)
                    self.assertIs((one, other) in house.apart, apart and one < other)


class Names(Case):
    def test_unknown_deed(self):
        for house in houses():
            for odd in odd_values() + ["nodeed", (), ("a",), {}]:
                self.unknown(odd, house.__getitem__, odd)
                self.unknown(odd, house.are_apart, odd, house.deeds[0])
                self.unknown(odd, house.are_apart, house.deeds[0], odd)
                self.unknown(odd, house.are_apart, odd, "other")

    def test_unknown_hand(self):
        for house in houses():
            for odd in odd_values() + ["nohand", (), ("a",), {}]:
                for call in (house.deeds_of, house.above, house.side):
                    self.unknown(odd, call, odd)

    def test_a_hand_is_no_deed(self):
        self.unknown("l", duo().__getitem__, "l")
        self.unknown("a", duo().deeds_of, "a")
        self.unknown("a", duo().above, "a")
        self.unknown("a", duo().side, "a")
        self.unknown("r", duo().are_apart, "m", "r")

    def test_index(self):
        self.assertEqual([duo()["a"], duo()["b"], duo()["m"]], [("l",), ("r",), ("l", "r")])
        self.unknown(0, duo().__getitem__, 0)


class Values(Case):
    def test_contains(self):
        for house in houses():
            for hand in house.hands:
                self.assertIs(hand in house, True)
            for odd in odd_values() + ["nohand", "overlong", (), {}, ("l",), house.hands]:
                self.assertIs(odd in house, False)
        self.assertIs("x" in line(), False)

    def test_equal(self):
        for at, one in enumerate(houses()):
            for place, other in enumerate(houses()):
                self.assertIs(one == other, at == place)
                self.assertIs(one != other, at != place)

    def test_equal_needs_each_part(self):
        self.assertIs(duo() == House(("l", "r"), {"m": ("l", "r"), "b": ("r",), "a": ("l",)}), True)
        self.assertIs(duo() == House(("l", "r", "s"), {"a": ("l",), "b": ("r",), "m": ("l", "r")}), False)
        self.assertIs(duo() == House(("l", "r"), {"a": ("l",), "b": ("l",), "m": ("l", "r")}), False)
        self.assertIs(duo() == House(("l", "r"), {"a": ("l",), "c": ("r",), "m": ("l", "r")}), False)
        self.assertIs(duo() == House(("l", "r"), {"a": ("l",), "m": ("l", "r")}), False)
        self.assertIs(duo() != House(("l", "r"), {"a": ("l",), "m": ("l", "r")}), True)

    def test_equal_to_no_other_kind(self):
        for odd in odd_values() + [("l", "r"), {"a": ("l",)}, str(duo()), repr(duo()), "l", ()]:
            same = isinstance(odd, House) and odd.hands == ("l", "r")
            self.assertIs(duo() == odd, same)
            self.assertIs(duo() != odd, not same)
            self.assertIs(odd == duo(), same)
            self.assertIs(odd != duo(), not same)

    def test_not_iterated_over(self):
        for house in houses():
            for call in (iter, list, tuple, sorted, dict, enumerate):
                self.caught(TypeError, call, house)
        with self.assertRaises(TypeError):
            for _ in duo():
                pass

    def test_a_house_is_true(self):
        self.assertTrue(all(bool(house) for house in houses()))

    def test_kinds_of_values(self):
        for house in houses():
            parts = [house.hands, house.deeds, house.links, house.apart, house.side(house.hands[0])]
            self.assertEqual({type(part) for part in parts}, {tuple})
            self.assertEqual({type(pair) for pair in house.links + house.apart}, {tuple} if house.links else set())
            self.assertEqual({type(house[deed]) for deed in house.deeds}, {tuple})
            self.assertEqual([type(house.deeds_of(hand)) for hand in house.hands], [tuple] * len(house))


class Unchanged(Case):
    def test_order_of_the_dict(self):
        deeds = {"a": ("l",), "b": ("r",), "m": ("l", "r"), "n": ("r",)}
        first = House(("l", "r"), deeds)
        for keys in permutations(deeds):
            house = House(("l", "r"), {key: deeds[key] for key in keys})
            self.assertEqual(told(house), told(first))
            self.assertEqual(repr(house), repr(first))
            self.assertTrue(house == first)

    def test_passed_values(self):
        deeds = {"m": ("l", "r"), "a": ("l",)}
        hands = ("l", "r")
        House(hands, deeds)
        self.assertEqual((hands, list(deeds.items())), (("l", "r"), [("m", ("l", "r")), ("a", ("l",))]))

    def test_refused_values(self):
        values = nested_values()
        for value in values:
            self.caught(InvalidHouse, House, value, value)
            self.caught(InvalidHouse, House, ("l",), {"a": value})
        self.assertEqual(values, nested_values())

    def test_no_state_is_shared(self):
        deeds = {"a": ("l",), "m": ("l", "r")}
        house = House(("l", "r"), deeds)
        before = told(house)
        deeds["b"] = ("r",)
        deeds["a"] = ("r",)
        del deeds["m"]
        self.assertEqual(told(house), before)

    def test_asking_changes_nothing(self):
        for house in houses():
            before = told(house)
            for odd in odd_values():
                self.unknown(odd, house.above, odd)
                self.unknown(odd, house.__getitem__, odd)
                self.assertIs(odd in house, False)
            self.assertEqual(told(house), before)

    def test_properties_are_not_assigned(self):
        for name in ("hands", "deeds", "links", "apart"):
            self.caught(AttributeError, setattr, duo(), name, ())
