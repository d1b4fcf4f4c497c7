"""[0.2], [0.7], [0.12] to [0.15], [0.18], [0.19]: what the document says over the whole program."""

import copy
import importlib
import inspect
from random import Random

from eachshare.base.houses import House
from eachshare.base.rows import are_alike, own_rows, past, whole
from eachshare.desk.desk import Desk
from eachshare.errors import InvalidHouse, TooMany
from eachshare.know.cuts import count_alike, cuts, perhaps, surely
from eachshare.know.endless import does_meet, for_ever
from eachshare.know.knowing import does_know, hopeless, is_lasting, may_be, view, won
from eachshare.know.noticing import first_notice, is_noticed, knowers, least_noticed
from eachshare.know.refusing import is_let, is_refused, let_rows
from eachshare.put.crews import greatest_gifts, is_good, least_crews
from eachshare.put.together import from_own, own_paper, own_wishes, then_alike
from eachshare.share.informed import is_informed
from eachshare.share.judged import wish_of
from eachshare.share.made import made
from eachshare.share.shares import Share
from eachshare.share.steady import is_steady
from eachshare.text.formats import write_house, write_wish
from eachshare.text.shell import Shell
from eachshare.wish.wishes import Wish
from tests import again
from tests.samples import Case, calm, crowd, duo, even, falling, grid, groves, line, odd_share, once, snake, steady, turning
from tests.test_form import FUNCTIONS


def worlds(most=6):
    """Pairs of a house and a steady wish of a few states, with lasting sets."""
    found = falling() + [(house, wish, again.lasting_sets(wish)) for house, wish in steady(101, each=2, most=most)]
    return [world for world in found if len(world[1]) <= most]


def rows_to_states(wish):
    """A row to each state of a wish, in the order of the states."""
    found, waiting = {0: ()}, [0]
    for state in waiting:
        for deed in wish.deeds:
            end = wish[state, deed]
            if end not in found:
                found[end] = found[state] + (deed,)
                waiting.append(end)
    return [found[state] for state in range(len(wish))]


class Names:
    """Other names of hands and deeds, and what they make of all that calls tell."""

    def __init__(self, house, wish, hands, deeds):
        self.hands, self.deeds = hands, deeds
        self.house = house.renamed(hands=hands, deeds=deeds)
        self.wish = wish.renamed(deeds)
        self.numbers = [self.wish.after(self.row(row)) for row in rows_to_states(wish)]

    def row(self, row):
        return tuple(self.deeds[deed] for deed in row)

    def some(self, hands):
        return tuple(sorted(self.hands[hand] for hand in hands))

    def states(self, states):
        return tuple(sorted(self.numbers[state] for state in states))

    def of_wish(self, wish):
        return wish.renamed({deed: self.deeds[deed] for deed in wish.deeds})

    def gifts(self, family):
        return tuple(sorted((self.deeds[deed], self.hands[hand]) for deed, hand in family))


def exchanged(names):
    """All names the other way round: the first one gets the last one's, and so on."""
    return dict(zip(names, names[::-1]))


def renamings(house, wish, rng):
    letters = ["za", "yb", "xc", "wd", "ve", "uf", "tg", "sh"]
    drawn = rng.sample(house.deeds, len(house.deeds))
    yield Names(house, wish, exchanged(house.hands), exchanged(house.deeds))
    yield Names(house, wish, dict(zip(house.hands, letters)), dict(zip(house.deeds, letters)))
    yield Names(house, wish, {hand: hand + "x" for hand in house.hands}, {deed: deed + "y" for deed in house.deeds})
    yield Names(house, wish, {hand: hand for hand in house.hands}, dict(zip(house.deeds, drawn)))


class Renamed(Case):
    def test_houses_and_rows(self):
        rng = Random(1)
        for house, wish, _ in worlds():
            row = again.random_row(rng, house.deeds, 6)
            other_row = rng.choice(again.alike(house, row)[:50])
            for names in renamings(house, wish, rng):
                house_of, moved = names.house, names.row(row)
                self.assertEqual({frozenset(pair) for pair in house_of.links}, {frozenset(names.some(pair)) for pair in house.links})
                self.assertEqual({frozenset(pair) for pair in house_of.apart}, {frozenset(names.row(pair)) for pair in house.apart})
                self.assertEqual(own_rows(house_of, moved), {names.hands[hand]: names.row(own) for hand, own in own_rows(house, row).items()})
                self.assertIs(are_alike(house_of, moved, names.row(other_row)), True)
                self.assertEqual(count_alike(house_of, moved), count_alike(house, row))
                for hand in house.hands:
                    self.assertEqual(past(house_of, moved, names.hands[hand]), names.row(past(house, row, hand)))
                order = [house.hands.index(hand) for hand in sorted(house.hands, key=names.hands.get)]
                self.assertEqual(cuts(house_of, moved), tuple(sorted(tuple(cut[place] for place in order) for cut in cuts(house, row))))

    def test_what_hands_know(self):
        rng = Random(2)
        for house, wish, lasting in worlds():
            row = again.random_row(rng, house.deeds, 5)
            for names in renamings(house, wish, rng):
                house_of, other, moved = names.house, names.wish, names.row(row)
                self.assertIs(is_steady(house_of, other), True)
                self.assertEqual([hopeless(other), won(other)], [names.states(hopeless(wish)), names.states(won(wish))])
                self.assertEqual(perhaps(house_of, other, moved), names.states(perhaps(house, wish, row)))
                for hands in again.subsets(house.hands)[:8]:
                    some = names.some(hands)
                    self.assertEqual(view(house_of, other, moved, some), names.numbers[view(house, wish, row, hands)])
                    self.assertEqual(may_be(house_of, other, moved, some), names.states(may_be(house, wish, row, hands)))
                for states in lasting[:4]:
                    set_of = names.states(states)
                    self.assertIs(is_lasting(other, set_of), True)
                    self.assertIs(is_noticed(house_of, other, set_of), is_noticed(house, wish, states))
                    self.assertEqual(knowers(house_of, other, moved, set_of), names.some(knowers(house, wish, row, states)))
                    found = first_notice(house, wish, row, states)
                    self.assertEqual(first_notice(house_of, other, moved, set_of), found and (found[0], names.some(found[1])))
                    self.assertIs(is_let(house_of, other, moved, set_of), is_let(house, wish, row, states))
                    self.assertIs(surely(house_of, other, moved, set_of), surely(house, wish, row, states))
                    for deed in house.deeds:
                        wanted = is_refused(house, wish, row, deed, states)
                        self.assertIs(is_refused(house_of, other, moved, names.deeds[deed], set_of), wanted)

    def test_sets_shares_and_goals(self):
        rng = Random(3)
        for house, wish, lasting in worlds(4)[::2]:
            stem, turn = again.random_row(rng, house.deeds, 3), again.random_row(rng, house.deeds, 3)
            for names in renamings(house, wish, rng):
                house_of, other = names.house, names.wish
                for states in lasting[:4] + [(0,)]:
                    found = {names.states(one) for one in least_noticed(house, wish, states)}
                    self.assertEqual(set(least_noticed(house_of, other, names.states(states))), found)
                    for hand in house.hands:
                        wanted = does_meet(house, wish, hand, states)
                        self.assertIs(does_meet(house_of, other, names.hands[hand], names.states(states)), wanted)
                for hand in house.hands:
                    wanted = names.states(for_ever(house, wish, stem, turn, hand))
                    self.assertEqual(for_ever(house_of, other, names.row(stem), names.row(turn), names.hands[hand]), wanted)
                for states in lasting[:2]:
                    self.assertEqual(let_rows(house_of, other, names.states(states)), names.of_wish(let_rows(house, wish, states)))
                self.assertEqual(wish_of(made(house_of, other)), other)

    def test_wishes_put_together_crews_and_gifts(self):
        rng = Random(4)
        for house, wish, lasting in worlds(5)[::2]:
            row = again.random_row(rng, house.deeds, 3)
            for names in renamings(house, wish, rng):
                house_of, other = names.house, names.wish
                try:
                    wanted = names.of_wish(then_alike(house, wish, wish))
                except TooMany:
                    self.too_many(24, then_alike, house_of, other, other)
                else:
                    self.assertEqual(then_alike(house_of, other, other), wanted)
                own = own_wishes(house, wish)
                self.assertEqual(own_wishes(house_of, other), {names.hands[hand]: names.of_wish(one) for hand, one in own.items()})
                self.assertEqual(own_paper(house_of, other)[0], own_paper(house, wish)[0])
                self.assertEqual(set(greatest_gifts(house_of, other)), {names.gifts(family) for family in greatest_gifts(house, wish)})
                for states in lasting[:4] + [(0,)]:
                    found = {names.some(crew) for crew in least_crews(house, wish, row, states)}
                    self.assertEqual(set(least_crews(house_of, other, names.row(row), names.states(states))), found)

    def test_desks(self):
        rng = Random(5)
        for house, wish, lasting in worlds()[::2]:
            for names in renamings(house, wish, rng):
                desk, other = Desk(house), Desk(names.house)
                states = rng.choice([some for some in lasting if 0 not in some])
                desk.keep("w", wish, guarded=states)
                other.keep("w", names.wish, guarded=names.states(states))
                for _ in range(10):
                    free = desk.can_do("w")
                    self.assertEqual(set(other.can_do("w")), set(names.row(free)))
                    if free:
                        deed = rng.choice(free)
                        desk.do(deed)
                        other.do(names.deeds[deed])
                self.assertEqual([other.row, other.has("w")], [names.row(desk.row), desk.has("w")])


class MoreKnowledge(Case):
    def joined(self, house):
        """All houses in which two linked hands are one."""
        return [house.as_one(one, other) for one, other in house.links]

    def shared(self, house):
        """All houses in which a deed of one hand has another one, too."""
        found = []
        for deed in house.deeds:
            for hand in house.hands:
                if len(house[deed]) == 1 and hand not in house[deed]:
                    deeds = {each: house[each] for each in house.deeds}
                    try:
                        found.append(House(house.hands, {**deeds, deed: tuple(sorted(house[deed] + (hand,)))}))
                    except InvalidHouse:
                        pass
        return found

    def test_steady_stays_steady_and_lost_stays_noticed(self):
        many = 0
        for house, wish, lasting in worlds():
            for other in self.joined(house) + self.shared(house):
                self.assertIs(is_steady(other, wish), True)
                for states in lasting[:8]:
                    if is_noticed(house, wish, states):
                        many += 1
                        self.assertIs(is_noticed(other, wish, states), True)
        self.assertGreater(many, 200)

    def test_gifts_are_the_other_way(self):
        for house, wish, _ in worlds():
            for deed in house.deeds:
                for hand in house[deed]:
                    if len(house[deed]) == 2 and is_good(house, wish, ((deed, hand),)):
                        self.assertIs(is_steady(house.given(deed, hand), wish), True)

    def test_a_house_without_one_of_its_hands(self):
        # Without r, who did m with l, the deeds b and m of others would be apart.
        house = House(("l", "n", "r"), {"a": ("l",), "b": ("n", "r"), "m": ("l", "r")})
        without = House(("l", "n"), {"a": ("l",), "b": ("n",), "m": ("l",)})
        self.assertEqual([is_steady(house, once()), is_steady(without, once())], [True, False])
        self.assertEqual([is_steady(house, even()), is_steady(without, even())], [True, True])

    def test_made_of_steady_wishes(self):
        rng = Random(6)
        for house in (duo(), line(), groves(), snake()):
            wishes = [wish for other, wish in steady(102, each=4, most=5) if other == house]
            for one in wishes:
                other = rng.choice(wishes)
                for call in (lambda: one & other, lambda: one | other, lambda: one - other, lambda: ~one, one.turned):
                    try:
                        self.assertIs(is_steady(house, call()), True)
                    except TooMany:
                        pass


class WhatIsNotTrue(Case):
    def test_rows_one_behind_the_other(self):
        one, other = Wish.of_rows(("a", "b", "m"), (("a",),)), Wish.of_rows(("a", "b", "m"), (("b",),))
        plain = Wish.of_rows(("a", "b", "m"), (("a", "b"),))
        self.assertEqual([is_steady(duo(), wish) for wish in (one, other, plain)], [True, True, False])
        self.assertIs(is_steady(duo(), then_alike(duo(), one, other)), True)

    def test_some_hand_always_knows(self):
        self.assertEqual([is_noticed(duo(), calm(), hopeless(calm())), knowers(duo(), calm(), ("a", "b"), (3,))], [False, ()])

    def test_each_share_is_informed(self):
        self.assertIs(is_informed(duo(), ~even(), odd_share()), False)
        self.assertIs(is_informed(duo(), ~even(), made(duo(), ~even())), True)
        # The share with the fewest states is none: this one has four, and no informed one has fewer.
        self.assertEqual([len(odd_share()), wish_of(odd_share())], [4, ~even()])

    def test_own_rows_alone(self):
        self.assertEqual(own_paper(duo(), even())[0], "shared")
        self.assertEqual([len(again.alike(duo(), ("a", "b"))), len({repr(own_rows(duo(), row)) for row in (("a", "b"), ("b", "a"))})], [2, 1])
        self.assertEqual(whole(duo(), own_rows(duo(), ("b", "a"))), ("a", "b"))

    def test_given_deed_by_deed(self):
        house = House(("k", "n"), {"x": ("k", "n"), "y": ("k", "n")})
        wish = Wish(("x", "y"), ((1, 2), (1, 1), (2, 2)), (1,))
        self.assertEqual([is_good(house, wish, (("x", "k"),)), is_good(house, wish, (("y", "n"),))], [True, True])
        self.assertIs(is_good(house, wish, (("x", "k"), ("y", "n"))), False)


class Beside(Case):
    """A hand without deeds, or one beside that does a deed of its own which changes nothing."""

    def wider(self, house, wish):
        """Houses with one hand more, each with the wish of its deeds."""
        deeds = {deed: house[deed] for deed in house.deeds}
        for name in ("aa", "zz"):
            hands = tuple(sorted(house.hands + (name,)))
            yield House(hands, deeds), wish, ()
            ends = tuple(row + (state,) for state, row in enumerate(wish.targets))
            yield House(hands, {**deeds, "zzz": (name,)}), Wish(wish.deeds + ("zzz",), ends, wish.kept), ("zzz",)
        # Such a deed of a hand of the house.
        yield House(house.hands, {**deeds, "zzz": house.hands[:1]}), Wish(wish.deeds + ("zzz",), ends, wish.kept), ("zzz",)

    def worlds(self):
        return [world for world in worlds(5) if len(world[0].hands) < 5 and len(world[0].deeds) < 8][::2]

    def test_nothing_of_the_others_changes(self):
        rng = Random(7)
        for house, wish, lasting in self.worlds():
            for other, other_wish, more in self.wider(house, wish):
                row = again.random_row(rng, house.deeds, 4)
                place = rng.randint(0, 4)
                longer = row[:place] + more + row[place:]
                self.assertIs(is_steady(other, other_wish), True)
                self.assertEqual(perhaps(other, other_wish, longer), perhaps(house, wish, row))
                for hands in again.subsets(house.hands)[:8]:
                    self.assertEqual(view(other, other_wish, longer, hands), view(house, wish, row, hands))
                    self.assertEqual(may_be(other, other_wish, longer, hands), may_be(house, wish, row, hands))
                for states in lasting[:4] + [(0,)]:
                    for hand in house.hands:
                        self.assertIs(does_know(other, other_wish, longer, (hand,), states), does_know(house, wish, row, (hand,), states))
                        if "zzz" not in other.deeds or hand not in other["zzz"]:
                            self.assertIs(does_meet(other, other_wish, hand, states), does_meet(house, wish, hand, states))
                    self.assertIs(surely(other, other_wish, longer, states), surely(house, wish, row, states))
                    self.assertEqual(least_crews(other, other_wish, longer, states), least_crews(house, wish, row, states))
                for states in lasting[:4]:
                    self.assertIs(is_noticed(other, other_wish, states), is_noticed(house, wish, states))
                    self.assertIs(is_let(other, other_wish, longer, states), is_let(house, wish, row, states))
                self.assertEqual(greatest_gifts(other, other_wish), greatest_gifts(house, wish))
                self.assertEqual(own_paper(other, other_wish)[0], own_paper(house, wish)[0])


class Values(Case):
    """One call of each function of the interface, with arguments that it accepts."""

    row = ("a", "m", "b")

    def given(self):
        house, wish, share, row = duo(), calm(), odd_share(), self.row
        known = {
            "house": house, "wish": wish, "row": row, "hand": "l", "hands": ("l",), "deed": "a", "states": (3,), "state": 0, "share": share, "cut": (0, 0),
            "stem": ("a",), "turn": ("m", "a"), "goal": (0, 1), "gifts": (), "wishes": own_wishes(house, wish), "rows": own_rows(house, row), "place": 0,
        }
        special = {
            "are_alike": (house, row, row), "exchanged": (house, ("a", "b"), 0), "join": (house, wish, "l", 0, 0, 0), "parting": (~even(), share),
            "next_outlook": (house, even(), ((0, 1), (0, 1)), "m"), "parting_of": (share, share), "same_paper": (~even(), share), "is_good": (house, even(), ()),
            "is_same_paper": (~even(), share, ("row", row)), "views": (house, once(), made(house, once())), "is_informed": (house, once(), made(house, once())),
            "then_alike": (house, wish, even()), "from_own": (house, own_wishes(house, wish)), "read_house": (write_house(house),),
            "read_wish": (write_wish(wish),), "read_row": ("a b",), "read_value": ("{ =a ( 1 { } ) =b { 1 2 } }",),
        }
        for module, functions in FUNCTIONS.items():
            for name in functions:
                call = getattr(importlib.import_module(module), name)
                names = list(inspect.signature(call).parameters)
                yield name, call, special.get(name) or tuple(known.get(one, ("a", {"b": (1,)})) for one in names)

    def answer(self, call, given):
        found = call(*given)
        return list(found) if inspect.isgenerator(found) else found

    def test_arguments_stay_and_equal_calls_return_equal_results(self):
        many = 0
        for name, call, given in self.given():
            before = repr(given)
            found = self.answer(call, given)
            self.assertEqual(repr(given), before, name)
            self.assertEqual(repr(self.answer(call, copy.deepcopy(given))), repr(found), name)
            self.assertEqual(repr(self.answer(call, given)), repr(found), name)
            many += 1
        self.assertEqual(many, sum(len(functions) for functions in FUNCTIONS.values()))

    def test_what_is_returned_is_free(self):
        for name, call, given in self.given():
            found = self.answer(call, given)
            text = repr(found)
            self.spoil(found)
            self.assertEqual(repr(self.answer(call, given)), text, name)

    def spoil(self, value):
        """Change all dicts and lists in a value."""
        if isinstance(value, (tuple, list)):
            for part in value:
                self.spoil(part)
        if isinstance(value, dict):
            for part in list(value.values()):
                self.spoil(part)
            value.clear()
        elif isinstance(value, list):
            value.clear()
        elif isinstance(value, Share):
            for part in (value.sizes, value.tables, value.folds):
                part.clear()

    def test_dicts_ascend(self):
        for name, call, given in self.given():
            self.check_dicts(self.answer(call, given), name)
        self.check_dicts([odd_share().sizes, odd_share().tables, odd_share().folds], "share")

    def check_dicts(self, value, name):
        if isinstance(value, dict):
            self.assertEqual(list(value), sorted(value), name)
        if isinstance(value, (tuple, list, dict)):
            for part in value.values() if isinstance(value, dict) else value:
                self.check_dicts(part, name)

    def test_only_desks_are_iterated_over(self):
        text = "hands l\ndeed a l"
        for value in (duo(), calm(), odd_share(), Shell(text, {}), Desk(duo()).trial()):
            self.not_iterated_over(value)
        self.assertEqual(list(Desk(duo())), [])

    def test_equal_and_not_equal(self):
        values = [duo(), line(), calm(), even(), odd_share(), Desk(duo()), Desk(line()), None, 0, "a", (), {}]
        for one in values:
            for other in values:
                self.assertIs(one != other, not one == other)
                self.assertIs(one == other, one is other)

    def test_limits_of_houses(self):
        # Five hands, eight deeds and 24 states in all that is asked of a desk and a shell.
        house = crowd()
        self.assertEqual(len(from_own(house, own_wishes(house, turning(house, 24, {})))), 1)
        self.assertEqual(len(grid(house, {"on": 1, "tw": 2, "fi": 3})), 24)
