"""[15.1], [15.2], stage 15: what hands see again and again, and goals."""

from random import Random

from eachshare.base.houses import House
from eachshare.errors import InvalidHouse, InvalidOperation, InvalidRow, InvalidWish, UnknownName, Unsteady
from eachshare.know.endless import does_meet, for_ever, goal_paper, is_goal_paper
from eachshare.share.joins import outlook, outlooks
from eachshare.share.steady import is_breach
from eachshare.wish.wishes import Wish
from tests import again
from tests.samples import Case, calm, crowd, duo, even, falling, first, grid, line, many_houses, no_states, odd_values
from tests.samples import odd_values_but, once, snake, steady, turning


def small():
    """Pairs of a house and a steady wish with few states and few outlooks."""
    found = [(house, wish) for house, wish in steady(41, each=2, most=4)]
    found += [(house, wish) for house, wish, _ in falling() if len(wish) <= 4]
    found += [(duo(), turning(duo(), 3, {"m": 0})), (line(), turning(line(), 2, {"x": 0})), (snake(), turning(snake(), 2, {}))]
    return [(house, wish) for house, wish in found if len(again.rows_to_outlooks(house, wish)) <= 120]


SMALL = small()


def graph(house, wish):
    """The dict from all outlooks to where each deed leads from them, by rows and pasts."""
    rows = again.rows_to_outlooks(house, wish)
    return {place: {deed: again.outlook(house, wish, row + (deed,)) for deed in house.deeds} for place, row in rows.items()}


def kept_steps(house, hand, goal, steps):
    """The triples (outlook, outlook, whether it is an act) of the deeds but those of the hand to a view in the goal."""
    place = house.hands.index(hand)
    found = []
    for one, ends in steps.items():
        for deed, end in ends.items():
            acts = hand in house[deed]
            if not acts or end[place][1] not in goal:
                found.append((one, end, acts))
    return found


def reach(pairs, one):
    met, waiting = {one}, [one]
    while waiting:
        place = waiting.pop()
        for ahead, end in pairs:
            if ahead == place and end not in met:
                met.add(end)
                waiting.append(end)
    return met


def meets(house, hand, goal, steps):
    """Whether no act is on a way back to where it begins."""
    kept = kept_steps(house, hand, goal, steps)
    pairs = {(one, end) for one, end, _ in kept}
    return not any(one in reach(pairs, end) for one, end in {(one, end) for one, end, acts in kept if acts})


def are_ranks(house, hand, goal, steps, ranks):
    return all(ranks[one] >= ranks[end] + acts for one, end, acts in kept_steps(house, hand, goal, steps))


def misses(house, wish, hand, goal, stem, turn):
    """By the views behind the deeds of many turns."""
    acts = any(hand in house[deed] for deed in turn)
    row = stem + turn * 25
    return acts and not set(again.views_along(house, wish, row, hand, len(stem))) & set(goal)


def goals(rng, wish):
    states = tuple(range(len(wish)))
    return [(), states] + [tuple(state for state in states if rng.random() < 0.6) for _ in range(3)]


def drawn(rng, house):
    return again.random_row(rng, house.deeds, rng.randint(0, 4)), again.random_row(rng, house.deeds, rng.randint(1, 4))


class ForEver(Case):
    def test_many_turns(self):
        # With four states and five hands, all that comes again does so within ten turns, and again each twelve turns.
        rng = Random(1)
        sizes = set()
        for house, wish in SMALL * 3:
            stem, turn = drawn(rng, house)
            for hand in house.hands:
                late = again.views_along(house, wish, stem + turn * 23, hand, len(stem + turn * 10))
                found = for_ever(house, wish, stem, turn, hand)
                self.assertEqual(found, tuple(sorted(set(late))), (house, wish, stem, turn, hand))
                sizes.add(len(found))
        self.assertTrue({0, 1, 2, 3} <= sizes)

    def test_equal_endless_rows(self):
        rng = Random(2)
        for house, wish in SMALL * 2:
            stem, turn = drawn(rng, house)
            many = rng.randint(0, len(turn))
            others = [(stem, turn * 2), (stem + turn, turn), (stem + turn[:many], turn[many:] + turn[:many])]
            others += [(rng.choice(again.alike(house, stem)), rng.choice(again.alike(house, turn)))]
            for hand in house.hands:
                wanted = for_ever(house, wish, stem, turn, hand)
                for other, again_and_again in others:
                    self.assertEqual(for_ever(house, wish, other, again_and_again, hand), wanted)

    def test_the_same_own_rows(self):
        # Each hand has the same own rows, but not each beginning of one row is alike to one of the other.
        for wish in (calm(), once(), even()):
            for hand in ("l", "r"):
                wanted = for_ever(duo(), wish, ("b", "b"), ("a", "b"), hand)
                self.assertEqual(for_ever(duo(), wish, (), ("a", "b"), hand), wanted)
                self.assertEqual(for_ever(duo(), wish, ("a",) * 6, ("b", "a"), hand), wanted)

    def test_hands_that_do_not_act(self):
        for house, wish in SMALL:
            for hand in house.hands:
                for deed in house.deeds:
                    if hand not in house[deed]:
                        self.assertEqual(for_ever(house, wish, house.deeds, (deed,), hand), ())

    def test_long_ways_to_what_comes_again(self):
        wish = turning(duo(), 24, {"m": 0})
        self.assertEqual(for_ever(duo(), wish, (), ("a",), "l"), tuple(range(24)))
        self.assertEqual(for_ever(duo(), wish, ("a",), ("b", "m"), "l"), tuple(range(24)))
        self.assertEqual(for_ever(duo(), wish, (), ("a",) * 24 + ("b",), "l"), tuple(range(24)))
        self.assertEqual(for_ever(duo(), wish, (), ("a",) * 6 + ("m",), "r"), (0, 6, 12, 18))
        lost = grid(duo(), {"a": 23})
        self.assertEqual(for_ever(duo(), lost, (), ("a", "m"), "r"), (23,))
        self.assertEqual(for_ever(duo(), lost, ("a",) * 5, ("m",), "r"), (lost.after(("a",) * 5),))

    def test_trees_that_do_not_meet(self):
        # All hands together come again much later than each of them.
        house = House(tuple("abcde"), {hand: (hand,) for hand in "abcde"})
        wish = turning(house, 24, {"a": 3, "b": 8, "c": 1})
        turn = ("a", "b", "c", "d", "e") * 30
        counted = {many: wish.after(("c",) * many) for many in range(24)}
        self.assertEqual(for_ever(house, wish, turn, turn + ("a",), "a"), tuple(sorted(counted[many] for many in range(0, 24, 3))))
        self.assertEqual(for_ever(house, wish, turn, turn, "b"), tuple(sorted(counted[many] for many in (0, 8, 16))))
        self.assertEqual(for_ever(house, wish, ("c",) * 5, turn, "d"), tuple(range(24)))

    def test_other_hands_do_not_matter(self):
        wish = turning(duo(), 5, {"m": 0})
        wider = House(("k", "l", "r"), {"a": ("l",), "b": ("r",), "m": ("l", "r"), "n": ("k",)})
        still = Wish(("a", "b", "m", "n"), tuple(ends + (state,) for state, ends in enumerate(wish.targets)), wish.kept)
        for turn in (("a",), ("a", "m"), ("b", "m", "a"), ("b",)):
            wanted = for_ever(duo(), wish, ("b", "m"), turn, "l")
            self.assertEqual(for_ever(wider, still, ("n", "b", "m"), turn, "l"), wanted)
            self.assertEqual(for_ever(wider, still, ("b", "n", "m"), ("n",) + turn, "l"), wanted)

    def test_rows_of_hundreds_of_deeds(self):
        rng = Random(3)
        wish = turning(crowd(), 24, {"cd": 7})
        stem, turn = again.random_row(rng, crowd().deeds, 900), again.random_row(rng, crowd().deeds, 700)
        for hand in crowd().hands:
            self.assertEqual(for_ever(crowd(), wish, stem, turn, hand), for_ever(crowd(), wish, stem + turn, turn * 2, hand))


class Goals(Case):
    def test_against_a_second_search(self):
        rng = Random(4)
        answers = []
        for house, wish in SMALL:
            steps = graph(house, wish)
            for hand in house.hands:
                for goal in goals(rng, wish):
                    answers.append(meets(house, hand, goal, steps))
                    self.assertIs(does_meet(house, wish, hand, goal), answers[-1], (house, wish, hand, goal))
        self.assertTrue(50 < sum(answers) < len(answers) - 50)

    def test_papers(self):
        rng = Random(5)
        for house, wish in SMALL:
            steps = graph(house, wish)
            for hand in house.hands:
                for goal in goals(rng, wish):
                    found = goal_paper(house, wish, hand, goal)
                    self.assertIs(is_goal_paper(house, wish, hand, goal, found), True)
                    if does_meet(house, wish, hand, goal):
                        self.assertEqual([type(found), len(found), found[0], type(found[1])], [tuple, 2, "meets", dict])
                        self.assertEqual(tuple(found[1]), outlooks(house, wish))
                        self.assertTrue(all(type(rank) is int and 0 <= rank < len(steps) for rank in found[1].values()))
                        self.assertTrue(are_ranks(house, hand, goal, steps, found[1]))
                    else:
                        self.assertEqual([type(found), len(found), found[0]], [tuple, 3, "misses"])
                        self.assertEqual([type(row) for row in found[1:]], [tuple, tuple])
                        self.assertTrue(misses(house, wish, hand, goal, *found[1:]))

    def test_exactly_one_form(self):
        # Where the wish meets the goal no endless row misses it, else no ranks are a paper.
        rng = Random(6)
        for house, wish in SMALL:
            steps = graph(house, wish)
            for hand in house.hands:
                for goal in goals(rng, wish):
                    if does_meet(house, wish, hand, goal):
                        for _ in range(5):
                            stem, turn = drawn(rng, house)
                            self.assertIs(is_goal_paper(house, wish, hand, goal, ("misses", stem, turn)), False)
                            self.assertFalse(misses(house, wish, hand, goal, stem, turn))
                    else:
                        for ranks in ({place: 0 for place in steps}, {place: rng.randrange(9) for place in steps}):
                            self.assertIs(is_goal_paper(house, wish, hand, goal, ("meets", ranks)), False)

    def test_no_state_and_all(self):
        for house, wish in SMALL:
            for hand in house.hands:
                self.assertIs(does_meet(house, wish, hand, tuple(range(len(wish)))), True)
                self.assertIs(does_meet(house, wish, hand, ()), house.deeds_of(hand) == ())

    def test_hands_without_deeds(self):
        house = House(("k", "l", "r"), {"a": ("l",), "b": ("r",), "m": ("l", "r")})
        for wish in (calm(), once(), even()):
            for goal in again.subsets(tuple(range(len(wish)))):
                found = goal_paper(house, wish, "k", goal)
                self.assertEqual(found, ("meets", {place: 0 for place in outlooks(house, wish)}))
                self.assertIs(is_goal_paper(house, wish, "k", goal, ("misses", (), ("a",))), False)
                for hand in ("l", "r"):
                    self.assertIs(does_meet(house, wish, hand, goal), does_meet(duo(), wish, hand, goal))

    def test_endless_rows_of_all_kinds(self):
        rng = Random(7)
        answers = []
        for house, wish in SMALL:
            for hand in house.hands:
                for goal in goals(rng, wish):
                    stem, turn = drawn(rng, house)
                    answers.append(misses(house, wish, hand, goal, stem, turn))
                    self.assertIs(is_goal_paper(house, wish, hand, goal, ("misses", stem, turn)), answers[-1])
        self.assertTrue(20 < sum(answers) < len(answers) - 20)

    def test_views_in_the_first_turns_count(self):
        wish = grid(duo(), {"a": 5})
        third = wish.after(("a",) * 3)
        self.assertIs(is_goal_paper(duo(), wish, "l", (third,), ("misses", (), ("a",))), False)
        self.assertIs(is_goal_paper(duo(), wish, "l", (third,), ("misses", ("a",) * 2, ("a",))), False)
        self.assertIs(is_goal_paper(duo(), wish, "l", (third,), ("misses", ("a",) * 3, ("a",))), True)
        self.assertIs(is_goal_paper(duo(), wish, "l", (0,), ("misses", (), ("a",))), True)
        self.assertIs(is_goal_paper(duo(), wish, "r", (third,), ("misses", ("a",) * 3, ("b", "b"))), True)
        self.assertIs(is_goal_paper(duo(), wish, "r", (third,), ("misses", ("a",) * 3, ("b", "m"))), False)

    def test_long_papers(self):
        stem, turn = ("a", "m", "b", "m") * 3000, ("b", "m", "a", "m") * 2000
        self.assertIs(is_goal_paper(duo(), calm(), "l", (3,), ("misses", stem, turn)), True)
        self.assertIs(is_goal_paper(duo(), calm(), "l", (1,), ("misses", stem, turn)), False)
        self.assertIs(is_goal_paper(duo(), calm(), "r", (3,), ("misses", stem + ("m",), turn + ("b", "m"))), True)
        self.assertIs(is_goal_paper(duo(), calm(), "r", (3,), ("misses", stem + ("m",), turn + ("a", "b"))), False)


class Ranks(Case):
    # The wish that counts deeds a up to three: each deed of l is done behind a view that comes nearer to the last one.
    wish = grid(duo(), {"a": 3})
    goal = (3,)

    def paper(self):
        found = goal_paper(duo(), self.wish, "l", self.goal)
        self.assertEqual(found[0], "misses")
        return goal_paper(duo(), even(), "l", (0, 1))

    def ranks(self):
        """A house, a wish, a hand and a goal, with ranks that must fall."""
        house = House(("l", "r"), {"a": ("l",), "b": ("r",)})
        wish = grid(house, {"a": 3})
        goal = (wish.after(("a",) * 3),)
        word, ranks = goal_paper(house, wish, "l", goal)
        self.assertEqual([word, sorted(ranks.values())], ["meets", [0, 0, 1, 2]])
        return house, wish, goal, ranks

    def test_of_others(self):
        house, wish, goal, ranks = self.ranks()
        for change in (lambda rank: rank + 7, lambda rank: rank * 5, lambda rank: rank * 10 ** 50 + 3, lambda rank: rank ** 3):
            other = {place: change(rank) for place, rank in ranks.items()}
            self.assertIs(is_goal_paper(house, wish, "l", goal, ("meets", other)), True)
        self.assertIs(is_goal_paper(house, wish, "l", goal, ("meets", dict(list(ranks.items())[::-1]))), True)

    def test_each_rank_changed(self):
        rng = Random(8)
        answers = []
        for house, wish in SMALL[::2]:
            steps = graph(house, wish)
            for hand in house.hands:
                for goal in goals(rng, wish):
                    word, *more = goal_paper(house, wish, hand, goal)
                    if word == "meets":
                        for place in rng.sample(sorted(more[0]), min(5, len(more[0]))):
                            for rank in (more[0][place] + 1, more[0][place] - 1, 0, 99):
                                other = {**more[0], place: rank}
                                answers.append(rank >= 0 and are_ranks(house, hand, goal, steps, other))
                                self.assertIs(is_goal_paper(house, wish, hand, goal, ("meets", other)), answers[-1])
        self.assertTrue(50 < sum(answers) < len(answers) - 50)

    def test_values_that_are_no_ranks(self):
        house, wish, goal, ranks = self.ranks()
        for place in ranks:
            for odd in [value for value in odd_values() if type(value) is not int] + [-1, 10 ** 60, 10 ** 99, "0", (0,), 0.0]:
                self.assertIs(is_goal_paper(house, wish, "l", goal, ("meets", {**ranks, place: odd})), False)
            less = {other: rank for other, rank in ranks.items() if other != place}
            self.assertIs(is_goal_paper(house, wish, "l", goal, ("meets", less)), False)
            for key in (place + ((0, 0),), place[:1], (), None, 0, "l", (place, 0), ((0, 0), (3, 0)), ((0, 9), (0, 0)), place[0]):
                self.assertIs(is_goal_paper(house, wish, "l", goal, ("meets", {**ranks, key: 0})), key in ranks and ranks[key] == 0)
                self.assertIs(is_goal_paper(house, wish, "l", goal, ("meets", {**less, key: ranks[place]})), key == place)

    def test_true_is_not_one(self):
        house, wish, goal, ranks = self.ranks()
        self.assertIs(is_goal_paper(house, wish, "l", goal, ("meets", ranks)), True)
        for place, rank in ranks.items():
            if rank in (0, 1):
                self.assertIs(is_goal_paper(house, wish, "l", goal, ("meets", {**ranks, place: bool(rank)})), False)
            for one in range(2):
                for part in range(2):
                    if place[one][part] in (0, 1):
                        pair = place[one][:part] + (bool(place[one][part]),) + place[one][part + 1:]
                        other = place[:one] + (pair,) + place[one + 1:]
                        changed = {other if key == place else key: value for key, value in ranks.items()}
                        self.assertIs(is_goal_paper(house, wish, "l", goal, ("meets", changed)), False)

    def test_other_forms(self):
        house, wish, goal, ranks = self.ranks()
        values = [["meets", ranks], ("meets",), ("meets", ranks, 0), ("Meets", ranks), (ranks, "meets"), ("misses", ranks)]
        values += [("meets", list(ranks)), ("meets", tuple(ranks)), ("meets", {}), {"meets": ranks}, ranks, "meets", ("", ranks)]
        for odd in values + odd_values() + [("meets", odd) for odd in odd_values()] + [(odd, ranks) for odd in odd_values()]:
            self.assertIs(is_goal_paper(house, wish, "l", goal, odd), False)
        good = ("misses", (), ("a",))
        self.assertIs(is_goal_paper(duo(), calm(), "l", (0,), good), True)
        values = [["misses", (), ("a",)], ("misses", (), ()), ("misses", [], ("a",)), ("misses", (), ["a"]), ("misses", (), "a")]
        values += [("misses", ("z",), ("a",)), ("misses", (), ("z",)), ("misses", (), ("a",), 0), ("misses", ("a",)), ("meets", (), ("a",))]
        values += [("misses", (), ("a", "z")), ("misses", (), (("a",),)), ("misses", "", ("a",)), ("misses", (), ("m",)), ("misses",)]
        for odd in values + odd_values():
            self.assertIs(is_goal_paper(duo(), calm(), "l", (0,), odd), False)
        for odd in odd_values():
            self.assertIs(is_goal_paper(duo(), calm(), "l", (0,), (odd, (), ("a",))), False)
            self.assertIs(is_goal_paper(duo(), calm(), "l", (0,), ("misses", odd, ("a",))), odd == ())
            self.assertIs(is_goal_paper(duo(), calm(), "l", (0,), ("misses", (), odd)), False)
            self.assertIs(is_goal_paper(duo(), calm(), "l", (0,), ("misses", (odd,), ("a",))), odd == "b")

    def test_a_dict_that_is_returned_is_free(self):
        house, wish, goal, ranks = self.ranks()
        ranks.clear()
        self.assertEqual(len(goal_paper(house, wish, "l", goal)[1]), 4)

    def test_outlooks_are_those_of_stage_7(self):
        word, ranks = self.paper()
        self.assertEqual([word, tuple(ranks)], ["meets", outlooks(duo(), even())])
        self.assertIn(outlook(duo(), even(), ("a", "m", "b")), ranks)


class Limits(Case):
    def alone(self):
        return House(("k", "l", "n"), {"a": ("k",), "b": ("l",), "c": ("n",)})

    def test_just_2000_outlooks(self):
        wish = turning(self.alone(), 20, {"b": 2, "c": 2})
        self.assertEqual(len(outlooks(self.alone(), wish)), 2000)
        for hand, goal, wanted in (("k", (0,), "meets"), ("l", tuple(range(0, 20, 4)), "meets"), ("n", (1, 3), "misses")):
            found = goal_paper(self.alone(), wish, hand, goal)
            self.assertEqual(found[0], wanted)
            self.assertIs(is_goal_paper(self.alone(), wish, hand, goal, found), True)
            self.assertIs(does_meet(self.alone(), wish, hand, goal), wanted == "meets")

    def test_more(self):
        for wish in (turning(self.alone(), 24, {}), turning(self.alone(), 16, {"c": 2}) ):
            states = tuple(range(len(wish)))
            for goal in ((), (0,), states):
                self.too_many(2000, does_meet, self.alone(), wish, "k", goal)
                self.too_many(2000, goal_paper, self.alone(), wish, "k", goal)
                for value in (("meets", {}), ("misses", (), ("a",)), None, 0, ("misses",), [], {}):
                    self.too_many(2000, is_goal_paper, self.alone(), wish, "k", goal, value)
            self.assertEqual(for_ever(self.alone(), wish, (), ("a", "b", "c"), "k"), states)

    def test_behind_every_other_error(self):
        wish = turning(self.alone(), 24, {})
        for call, more in ((does_meet, ()), (goal_paper, ()), (is_goal_paper, (None,))):
            self.unknown("z", call, self.alone(), wish, "z", (0,), *more)
            self.caught(InvalidOperation, call, self.alone(), wish, "k", (24,), *more)
            other = self.alone().with_deed("d", ("k",))
            self.caught(InvalidOperation, call, other, wish, "k", (0,), *more)

    def test_many_levels(self):
        # Ranks as high as there are outlooks of one hand.
        house = House(("l",), {"a": ("l",)})
        wish = grid(house, {"a": 23})
        found = goal_paper(house, wish, "l", (wish.after(("a",) * 23),))
        self.assertEqual(sorted(found[1].values()), [0, 0] + list(range(1, 23)))


class Errors(Case):
    calls = ((does_meet, ()), (goal_paper, ()), (is_goal_paper, (None,)))

    def test_house_and_wish(self):
        for odd in odd_values_but(House):
            self.caught(InvalidHouse, for_ever, odd, calm(), (), ("a",), "l")
            self.caught(InvalidHouse, for_ever, odd, odd, odd, odd, odd)
            for call, more in self.calls:
                self.caught(InvalidHouse, call, odd, calm(), "l", (0,), *more)
                self.caught(InvalidHouse, call, odd, odd, odd, odd, *more)
        for odd in odd_values_but(Wish):
            self.caught(InvalidWish, for_ever, duo(), odd, (), ("a",), "l")
            self.caught(InvalidWish, for_ever, line(), odd, odd, odd, odd)
            for call, more in self.calls:
                self.caught(InvalidWish, call, duo(), odd, "l", (0,), *more)
                self.caught(InvalidWish, call, line(), odd, odd, odd, *more)

    def test_rows(self):
        for odd in odd_values() + ["a", ["a"], ("z",), ("a", ["b"]), ("l",), {}, []]:
            if odd != ():
                self.caught(InvalidRow, for_ever, duo(), calm(), odd, ("a",), "l")
            self.caught(InvalidRow, for_ever, duo(), calm(), (), odd, "l")
            self.caught(InvalidRow, for_ever, duo(), first(), (), odd, odd)
        self.caught(InvalidRow, for_ever, duo(), calm(), (), (), "l")
        self.caught(InvalidRow, for_ever, line(), calm(), (), (), "zz")

    def test_hand(self):
        for odd in odd_values() + ["a", "z", ("l",), ["l"]]:
            self.unknown(odd, for_ever, duo(), calm(), (), ("a",), odd)
            self.unknown(odd, for_ever, duo(), first(), (), ("a",), odd)
            for call, more in self.calls:
                self.unknown(odd, call, duo(), calm(), odd, (0,), *more)
                self.unknown(odd, call, line(), first(), odd, odd, *more)

    def test_goal(self):
        for call, more in self.calls:
            for odd in no_states(4):
                self.caught(InvalidOperation, call, duo(), calm(), "l", odd, *more)
            for odd in no_states(3):
                self.caught(InvalidOperation, call, duo(), first(), "l", odd, *more)

    def test_belongs_and_steady(self):
        for wish in (calm(), first()):
            for house in (duo().with_deed("c", ("l",)), duo().without_deed("m")):
                self.caught(InvalidOperation, for_ever, house, wish, (), ("a",), "l")
                for call, more in self.calls:
                    self.caught(InvalidOperation, call, house, wish, "l", (0,), *more)
        self.caught(Unsteady, for_ever, duo(), first(), (), ("a",), "l")
        for call, more in self.calls:
            found = self.caught(Unsteady, call, duo(), first(), "l", (0,), *more).breach
            self.assertIs(is_breach(duo(), first(), found), True)
            self.caught(Unsteady, call, duo().given("m", "r"), once(), "l", (0,), *more)

    def test_whatever_the_value_is(self):
        for odd in odd_values():
            self.caught(InvalidOperation, is_goal_paper, duo(), calm(), "l", (9,), odd)
            self.caught(Unsteady, is_goal_paper, duo(), first(), "l", (0,), odd)
            self.caught(UnknownName, is_goal_paper, duo(), calm(), "z", (0,), odd)

    def test_other_names(self):
        house = duo().renamed(hands={"l": "z"}, deeds={"a": "z", "m": "a"})
        wish = calm().renamed({"a": "z", "m": "a"})
        for goal in again.subsets((0, 1, 2, 3)):
            moved = tuple(sorted({0: 0, 1: wish.after(("z",)), 2: wish.after(("b",)), 3: wish.after(("b", "z"))}[state] for state in goal))
            self.assertIs(does_meet(house, wish, "z", moved), does_meet(duo(), calm(), "l", goal))
            self.assertIs(does_meet(house, wish, "r", moved), does_meet(duo(), calm(), "r", goal))

    def test_all_houses(self):
        for house in many_houses():
            wish = turning(house, 2, {})
            for hand in house.hands:
                self.assertIs(does_meet(house, wish, hand, ()), house.deeds_of(hand) == ())
