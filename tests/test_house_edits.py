"""Stage 2: houses that are made of houses."""

from itertools import permutations

from eachshare.base.houses import House
from eachshare.errors import InvalidHouse, InvalidName, InvalidOperation
from tests import trees
from tests.samples import Case, duo, groves, houses, line, odd_values, snake, told


def doers_of(house):
    return {deed: house[deed] for deed in house.deeds}


class Edits(Case):
    def setUp(self):
        self.houses = houses()
        self.before = [told(house) for house in self.houses]

    def tearDown(self):
        self.assertEqual([told(house) for house in self.houses], self.before)


class Given(Edits):
    def test_every_deed_and_hand(self):
        for house in self.houses:
            for deed in house.deeds:
                for hand in house.hands:
                    if len(house[deed]) == 2 and hand in house[deed]:
                        wanted = House(house.hands, {**doers_of(house), deed: (hand,)})
                        self.assertEqual(told(house.given(deed, hand)), told(wanted))
                    else:
                        self.caught(InvalidOperation, house.given, deed, hand)

    def test_known(self):
        self.assertEqual(duo().given("m", "r")["m"], ("r",))
        self.assertEqual(duo().given("m", "l").links, ())
        self.assertEqual([line().given("x", "q").above("q"), line().given("x", "q").above("r")], [None, "q"])

    def test_unknown(self):
        for odd in odd_values() + ["l", "zz", (), {}]:
            self.unknown(odd, duo().given, odd, "l")
            self.unknown(odd, duo().given, odd, "zz")
            self.unknown(odd, duo().given, odd, odd)
        for odd in odd_values() + ["m", "zz", (), {}]:
            self.unknown(odd, duo().given, "m", odd)
            self.unknown(odd, duo().given, "a", odd)

    def test_not_to_be_given(self):
        self.caught(InvalidOperation, duo().given, "a", "l")
        self.caught(InvalidOperation, duo().given, "a", "r")
        self.caught(InvalidOperation, line().given, "x", "r")


class AsOne(Edits):
    def test_every_pair_of_every_forest(self):
        for hands, links in trees.forests():
            house = House(hands, trees.deeds_of_links(hands, links))
            for one in hands:
                for other in hands:
                    self.check_pair(house, one, other)

    def check_pair(self, house, one, other):
        if one == other:
            self.caught(InvalidOperation, house.as_one, one, other)
            return
        doers = {deed: house[deed] for deed in house.deeds}
        deeds = {deed: tuple(sorted({one if hand == other else hand for hand in doers[deed]})) for deed in doers}
        if trees.has_ring({pair for pair in deeds.values() if len(pair) == 2}):
            self.caught(InvalidHouse, house.as_one, one, other)
        else:
            wanted = House(tuple(hand for hand in house.hands if hand != other), deeds)
            self.assertEqual(told(house.as_one(one, other)), told(wanted))

    def test_the_first_name_stays(self):
        self.assertEqual(duo().as_one("l", "r"), House(("l",), {"a": ("l",), "b": ("l",), "m": ("l",)}))
        self.assertEqual(duo().as_one("r", "l"), House(("r",), {"a": ("r",), "b": ("r",), "m": ("r",)}))
        made = line().as_one("r", "q")
        self.assertEqual(doers_of(made), {"a": ("p",), "c": ("r",), "x": ("p", "r"), "y": ("r",)})

    def test_hands_of_two_trees(self):
        made = groves().as_one("e", "c")
        self.assertEqual(made.hands, ("a", "b", "d", "e"))
        self.assertEqual([made["ac"], made["two"], made.above("e"), made.deeds_of("e")], [
            ("a", "e"), ("e",), "a", ("ac", "two"),
        ])

    def test_hands_in_order(self):
        house = House(("a", "b", "c"), {"x": ("a", "b"), "y": ("c",)})
        self.assertEqual(house.as_one("c", "a")["x"], ("b", "c"))

    def test_rings(self):
        self.caught(InvalidHouse, snake().as_one, "b", "d")
        self.caught(InvalidHouse, snake().as_one, "b", "e")
        self.caught(InvalidHouse, snake().as_one, "d", "c")
        self.assertEqual(snake().as_one("e", "c").links, (("a", "e"), ("b", "e"), ("d", "e")))
        self.assertEqual(snake().as_one("a", "b").links, (("a", "c"), ("a", "e"), ("d", "e")))

    def test_unknown(self):
        for odd in odd_values() + ["m", "zz", (), {}]:
            self.unknown(odd, duo().as_one, odd, "l")
            self.unknown(odd, duo().as_one, "l", odd)
            self.unknown(odd, duo().as_one, odd, odd)
            self.unknown(odd, duo().as_one, odd, "zz")

    def test_one_hand(self):
        house = House(("l",), {"a": ("l",)})
        self.caught(InvalidOperation, house.as_one, "l", "l")
        self.unknown("r", house.as_one, "l", "r")


class WithDeed(Edits):
    def test_more_deeds(self):
        self.assertEqual(doers_of(duo().with_deed("c", ("l", "r"))), {**doers_of(duo()), "c": ("l", "r")})
        self.assertEqual(duo().with_deed("c", ("r",)).deeds, ("a", "b", "c", "m"))
        self.assertEqual(duo().with_deed("l", ("r",))["l"], ("r",))
        self.assertEqual(groves().with_deed("w", ("d", "e")).links, (("a", "b"), ("a", "c"), ("d", "e")))

    def test_up_to_eight(self):
        house = House(("l", "r"), {"a": ("l",)})
        for name in "bcdefgh":
            house = house.with_deed(name, ("l", "r"))
        self.assertEqual(house.deeds, tuple("abcdefgh"))
        self.caught(InvalidHouse, house.with_deed, "i", ("l",))
        self.caught(InvalidHouse, house.with_deed, "a", ("l",))
        self.caught(InvalidName, house.with_deed, "I", ("l",))

    def test_there_already(self):
        for house in self.houses:
            for deed in house.deeds:
                self.caught(InvalidHouse, house.with_deed, deed, house[deed])
                self.caught(InvalidHouse, house.with_deed, deed, (house.hands[0],))

    def test_no_name(self):
        for odd in odd_values() + ["overlongx", ("c",), {}, ()]:
            for hands in [("l",), ("r", "l"), (), None, odd]:
                self.caught(InvalidName, duo().with_deed, odd, hands)

    def test_no_hands(self):
        wrong = [(), ("r", "l"), ("l", "l"), ("x",), ("l", "x"), ["l"], ["l", "r"], "l", {"l": 1}, ("a",), {}]
        for hands in wrong + odd_values():
            self.caught(InvalidHouse, duo().with_deed, "c", hands)
            self.caught(InvalidHouse, duo().with_deed, "a", hands)
        self.caught(InvalidHouse, line().with_deed, "z", ("p", "q", "r"))

    def test_ring(self):
        self.caught(InvalidHouse, line().with_deed, "z", ("p", "r"))
        self.assertEqual(line().with_deed("z", ("q", "r")).links, line().links)


class WithoutDeed(Edits):
    def test_every_deed(self):
        for house in self.houses:
            for deed in house.deeds:
                doers = doers_of(house)
                del doers[deed]
                if doers:
                    self.assertEqual(told(house.without_deed(deed)), told(House(house.hands, doers)))
                else:
                    self.caught(InvalidHouse, house.without_deed, deed)

    def test_unknown(self):
        last = House(("l",), {"a": ("l",)})
        for odd in odd_values() + ["l", "zz", (), {}]:
            self.unknown(odd, duo().without_deed, odd)
            self.unknown(odd, last.without_deed, odd)

    def test_there_and_back(self):
        for deed in ("a", "b", "m"):
            self.assertEqual(duo().without_deed(deed).with_deed(deed, duo()[deed]), duo())

    def test_a_hand_can_be_left_without_deeds(self):
        self.assertEqual(line().without_deed("c").without_deed("y").deeds_of("r"), ())


class Renamed(Edits):
    def test_nothing(self):
        for house in self.houses:
            for names in (None, {}):
                for others in (None, {}):
                    self.assertEqual(told(house.renamed(hands=names, deeds=others)), told(house))
            self.assertEqual(told(house.renamed()), told(house))
            self.assertEqual(house.renamed(hands={house.hands[0]: house.hands[0]}), house)

    def test_hands(self):
        made = line().renamed(hands={"p": "z"})
        self.assertEqual(doers_of(made), {"a": ("z",), "c": ("r",), "x": ("q", "z"), "y": ("q", "r")})
        self.assertEqual([made.hands, made.above("q"), made.above("r")], [("q", "r", "z"), None, "q"])

    def test_deeds(self):
        made = line().renamed(deeds={"a": "z", "y": "b"})
        self.assertEqual(doers_of(made), {"b": ("q", "r"), "c": ("r",), "x": ("p", "q"), "z": ("p",)})
        self.assertEqual(made.deeds, ("b", "c", "x", "z"))

    def test_both(self):
        made = duo().renamed(hands={"l": "m"}, deeds={"m": "l"})
        self.assertEqual(doers_of(made), {"a": ("m",), "b": ("r",), "l": ("m", "r")})

    def test_exchanged(self):
        made = duo().renamed(hands={"l": "r", "r": "l"})
        self.assertEqual(doers_of(made), {"a": ("r",), "b": ("l",), "m": ("l", "r")})
        self.assertEqual(made.renamed(deeds={"a": "b", "b": "a"}), duo())

    def test_in_circles_there_and_back(self):
        for house in self.houses:
            for hands in permutations(house.hands):
                self.there_and_back(house, dict(zip(house.hands, hands)), None)
            for deeds in list(permutations(house.deeds))[:60]:
                self.there_and_back(house, None, dict(zip(house.deeds, deeds)))
                self.there_and_back(house, dict(zip(house.hands, house.hands[::-1])), dict(zip(house.deeds, deeds)))

    def there_and_back(self, house, hands, deeds):
        made = house.renamed(hands=hands, deeds=deeds)
        hands, deeds = hands or {hand: hand for hand in house.hands}, deeds or {deed: deed for deed in house.deeds}
        wanted = {deeds[deed]: tuple(sorted(hands[hand] for hand in house[deed])) for deed in house.deeds}
        self.assertEqual(told(made), told(House(house.hands, wanted)))
        back = made.renamed(
            hands={new: old for old, new in hands.items()}, deeds={new: old for old, new in deeds.items()},
        )
        self.assertEqual(told(back), told(house))

    def test_names_taken_twice(self):
        self.caught(InvalidOperation, line().renamed, hands={"p": "z", "q": "z"})
        self.caught(InvalidOperation, line().renamed, deeds={"a": "z", "x": "z"})
        self.caught(InvalidOperation, line().renamed, hands={"p": "q", "q": "q"})

    def test_a_name_that_an_unrenamed_one_has(self):
        self.caught(InvalidOperation, line().renamed, hands={"p": "q"})
        self.caught(InvalidOperation, line().renamed, hands={"p": "q", "q": "r"})
        self.caught(InvalidOperation, line().renamed, deeds={"a": "x"})
        self.assertEqual(line().renamed(hands={"p": "q", "q": "s"}).hands, ("q", "r", "s"))

    def test_keys_that_are_none_of_the_house(self):
        for key in ["z", "", "P", 1, True, None, (), ("p",), "p" * 9, 10 ** 99]:
            self.caught(InvalidOperation, line().renamed, hands={key: "s"})
            self.caught(InvalidOperation, line().renamed, hands={"p": "t", key: "s"})
            self.caught(InvalidOperation, line().renamed, deeds={key: "s"})
            self.caught(InvalidOperation, line().renamed, deeds={"a": "t", key: "s"})
        self.caught(InvalidOperation, line().renamed, hands={"a": "s"})
        self.caught(InvalidOperation, line().renamed, deeds={"p": "s"})

    def test_values_that_are_no_names(self):
        for odd in odd_values() + ["overlongx", (), {}, ("z",)]:
            self.caught(InvalidOperation, line().renamed, hands={"p": odd})
            self.caught(InvalidOperation, line().renamed, deeds={"a": odd})
            self.caught(InvalidOperation, line().renamed, hands={"p": "z", "q": odd})

    def test_no_dicts(self):
        for odd in odd_values() + ["p", (), ("p", "q"), (("p", "z"),), ["p"]]:
            if odd is not None:
                self.caught(InvalidOperation, line().renamed, hands=odd)
                self.caught(InvalidOperation, line().renamed, deeds=odd)
                self.caught(InvalidOperation, line().renamed, hands=odd, deeds=odd)
                self.caught(InvalidOperation, line().renamed, hands={"p": "z"}, deeds=odd)
                self.caught(InvalidOperation, line().renamed, hands=odd, deeds={"a": "z"})

    def test_passed_dicts(self):
        hands, deeds = {"q": "b", "p": "c"}, {"y": "k", "a": "l"}
        made = line().renamed(hands=hands, deeds=deeds)
        self.assertEqual((list(hands.items()), list(deeds.items())), ([("q", "b"), ("p", "c")], [("y", "k"), ("a", "l")]))
        before = told(made)
        hands["q"], deeds["y"] = "z", "z"
        self.assertEqual(told(made), before)

    def test_keywords_only(self):
        self.caught(TypeError, line().renamed, {"p": "z"})


class EqualCalls(Edits):
    def test_equal_results(self):
        for _ in range(2):
            self.assertEqual(line().given("x", "p"), line().given("x", "p"))
            self.assertEqual(line().as_one("p", "r"), line().as_one("p", "r"))
            self.assertEqual(line().with_deed("z", ("p",)), line().with_deed("z", ("p",)))
            self.assertEqual(line().without_deed("a"), line().without_deed("a"))

    def test_a_new_house(self):
        house = duo()
        made = house.with_deed("z", ("l",)).without_deed("z")
        self.assertTrue(made == house)
        self.assertIsNot(made, house)
