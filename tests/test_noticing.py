"""[0.17], [0.18], [0.19], [12.1], stage 12: which hands notice that a wish is in a lasting set of states."""

from itertools import product
from random import Random
from unittest.mock import patch

from eachshare.base.houses import House
from eachshare.errors import InvalidHouse, InvalidOperation, InvalidRow, InvalidWish, Unsteady
from eachshare.know import noticing as module
from eachshare.know.knowing import hopeless
from eachshare.know.noticing import first_notice, is_notice_paper, is_noticed, knowers, least_noticed, notice_paper
from eachshare.share.steady import is_breach
from eachshare.wish.wishes import Wish
from tests import again
from tests.samples import Case, calm, crowd, duo, even, falling, first, gadgets, grid, line, no_states, odd_values
from tests.samples import odd_values_but, once, snake, turning


def some_rows(rng, house, many):
    return [again.random_row(rng, house.deeds, rng.randint(0, 10)) for _ in range(many)]


def is_noticed_by_rows(house, wish, states, rows):
    """Whether some single hand knows behind each of these rows that leads into the set that the wish is in it."""
    return all(again.knowers(house, wish, row, states) for row in rows if wish.after(row) in states)


def is_missed(house, wish, states, row, one, other):
    """Whether a row and two deeds apart show that the set is missed."""
    if not again.are_apart(house, one, other):
        return False
    ends = [wish.after(row + more) in states for more in ((), (one,), (other,), (one, other))]
    return ends == [False, False, False, True]


def noticed_sets(house, wish):
    """The lasting sets that are noticed, by [12.1]: without rows, as it says."""
    return [
        states for states in again.lasting_sets(wish)
        if not any(
            is_missed(house, wish, states, row, one, other)
            for row in rows_to_states(wish) for one, other in house.apart
        )
    ]


def rows_to_states(wish):
    met, waiting = {}, [()]
    while waiting:
        row = waiting.pop(0)
        state = again.end(wish.deeds, wish.targets, row)
        if state not in met:
            met[state] = row
            waiting += [row + (deed,) for deed in wish.deeds]
    return list(met.values())


def seven():
    """A house and a wish with many least noticed sets."""
    house = duo()
    for deed in "cde":
        house = house.with_deed(deed, ("l", "r"))
    return house, gadgets(7)


class Noticed(Case):
    def test_by_rows_to_all_outlooks(self):
        answers = []
        for house, wish, lasting in falling():
            rows = list(again.rows_to_outlooks(house, wish).values())
            for states in lasting:
                answers.append(is_noticed_by_rows(house, wish, states, rows))
                self.assertIs(is_noticed(house, wish, states), answers[-1], (house, wish, states))
        self.assertTrue(30 < sum(answers) < len(answers) - 30)

    def test_by_short_rows(self):
        for wish in (even(), once(), calm(), grid(duo(), {"a": 1, "b": 1})):
            rows = again.all_rows(("a", "b", "m"), 5)
            for states in again.lasting_sets(wish):
                self.assertIs(is_noticed(duo(), wish, states), is_noticed_by_rows(duo(), wish, states, rows))

    def test_no_state_and_all(self):
        for house, wish, _ in falling():
            for states in ((), tuple(range(len(wish)))):
                self.assertIs(is_noticed(house, wish, states), True)
                self.assertEqual(notice_paper(house, wish, states), ("noticed",))

    def test_one_hand_notices_all(self):
        house = House(("l",), {deed: ("l",) for deed in "abm"})
        for wish in (even(), once(), calm(), first()):
            for states in again.lasting_sets(wish):
                self.assertIs(is_noticed(house, wish, states), True)

    def test_kept_states_do_not_matter_to_hands(self):
        # With more kept states, a loss that was noticed is not noticed any more.
        one, other = once(), once() | calm()
        self.assertTrue(all(row in other for row in again.kept_rows((one.deeds, one.targets, one.kept), 5)))
        narrow = Wish(("a", "b", "m"), ((1, 1, 0), (1, 1, 1)), (0,))
        wide = calm()
        self.assertTrue(all(row in wide for row in again.kept_rows((narrow.deeds, narrow.targets, narrow.kept), 5)))
        self.assertIs(is_noticed(duo(), narrow, hopeless(narrow)), True)
        self.assertIs(is_noticed(duo(), wide, hopeless(wide)), False)
        self.assertIs(is_noticed(duo(), other, hopeless(other)), is_noticed(duo(), calm(), (3,)))

    def test_houses_with_hands_made_one(self):
        for house, wish, lasting in falling():
            for states in lasting[:6]:
                if is_noticed(house, wish, states):
                    for one, other in house.links:
                        self.assertIs(is_noticed(house.as_one(one, other), wish, states), True)

    def test_other_names(self):
        house = duo().renamed(hands={"l": "z"}, deeds={"a": "z", "m": "a"})
        wish = calm().renamed({"a": "z", "m": "a"})
        self.assertEqual([is_noticed(house, wish, states) for states in again.lasting_sets(wish)], [True, False, True])


class Knowers(Case):
    def test_by_pasts(self):
        rng = Random(1)
        for house, wish, lasting in falling():
            for row in some_rows(rng, house, 4) + [(), house.deeds]:
                for states in lasting[:8]:
                    self.assertEqual(knowers(house, wish, row, states), again.knowers(house, wish, row, states))

    def test_all_short_rows(self):
        for row in again.all_rows(("a", "b", "m"), 5):
            self.assertEqual(knowers(duo(), calm(), row, (3,)), again.knowers(duo(), calm(), row, (3,)))

    def test_no_state_and_all(self):
        for house, wish, _ in falling():
            self.assertEqual(knowers(house, wish, house.deeds, ()), ())
            self.assertEqual(knowers(house, wish, house.deeds, tuple(range(len(wish)))), house.hands)

    def test_alike_rows(self):
        rng = Random(2)
        for house, wish, lasting in falling():
            row = again.random_row(rng, house.deeds, 6)
            for states in lasting[:4]:
                self.assertEqual(len({knowers(house, wish, other, states) for other in again.alike(house, row)[:20]}), 1)


class FirstNotice(Case):
    def wanted(self, house, wish, row, states):
        for many in range(len(row) + 1):
            found = again.knowers(house, wish, row[:many], states)
            if found:
                return many, found
        return None

    def test_each_beginning(self):
        rng = Random(3)
        answers = []
        for house, wish, lasting in falling():
            for row in some_rows(rng, house, 4):
                for states in lasting[:8]:
                    answers.append(first_notice(house, wish, row, states))
                    self.assertEqual(answers[-1], self.wanted(house, wish, row, states))
        self.assertTrue({None} < {answer and answer[0] for answer in answers})
        self.assertTrue({0, 1, 2, 3} <= {answer[0] for answer in answers if answer})

    def test_all_short_rows(self):
        for row in again.all_rows(("a", "b", "m"), 5):
            self.assertEqual(first_notice(duo(), calm(), row, (3,)), self.wanted(duo(), calm(), row, (3,)))

    def test_no_deed(self):
        self.assertEqual(first_notice(duo(), calm(), ("a",), (0, 1, 2, 3)), (0, ("l", "r")))
        self.assertEqual(first_notice(duo(), calm(), (), (0, 1, 2, 3)), (0, ("l", "r")))
        self.assertEqual([first_notice(duo(), calm(), (), ()), first_notice(duo(), calm(), ("a", "m"), ())], [None, None])

    def test_at_the_last_deed(self):
        self.assertEqual(first_notice(duo(), calm(), ("a", "b", "m"), (3,)), (3, ("l", "r")))
        self.assertEqual(first_notice(duo(), calm(), ("a", "b", "b"), (3,)), None)

    def test_rows_of_thousands_of_deeds(self):
        row = ("a", "m", "b", "m") * 1500 + ("a", "b") + ("b",) * 1000
        self.assertIs(first_notice(duo(), calm(), row, (3,)), None)
        self.assertEqual(first_notice(duo(), calm(), row + ("m", "a"), (3,)), (7003, ("l", "r")))
        row = again.random_row(Random(4), crowd().deeds, 3000)
        self.assertIs(first_notice(crowd(), turning(crowd(), 24, {}), row, ()), None)
        self.assertEqual(knowers(crowd(), turning(crowd(), 24, {}), row, tuple(range(24))), crowd().hands)


class Papers(Case):
    def test_of_each_set(self):
        for house, wish, lasting in falling():
            for states in lasting:
                found = notice_paper(house, wish, states)
                self.assertIs(is_notice_paper(house, wish, states, found), True)
                if is_noticed(house, wish, states):
                    self.assertEqual(found, ("noticed",))
                else:
                    self.assertEqual([type(found), len(found), found[0], type(found[1])], [tuple, 4, "missed", tuple])
                    self.assertTrue(is_missed(house, wish, states, *found[1:]))

    def test_exactly_one_form(self):
        for house, wish, lasting in falling():
            rows = rows_to_states(wish)
            for states in lasting:
                missed = any(
                    is_notice_paper(house, wish, states, ("missed", row, one, other))
                    for row in rows for one, other in house.apart
                )
                self.assertIs(is_notice_paper(house, wish, states, ("noticed",)), not missed)

    def test_all_short_rows_and_pairs(self):
        wishes = [(duo(), wish) for wish in (calm(), once(), grid(duo(), {"a": 2, "b": 1}), grid(duo(), {"a": 1, "m": 1}))]
        for house, wish in wishes + [(line(), grid(line(), {"a": 1, "c": 1}))]:
            rows = again.all_rows(house.deeds, 3)
            for states in again.lasting_sets(wish):
                for row, one, other in product(rows, house.deeds, house.deeds):
                    wanted = is_missed(house, wish, states, row, one, other)
                    self.assertIs(is_notice_paper(house, wish, states, ("missed", row, one, other)), wanted)

    def test_exchanged_deeds(self):
        for house, wish, lasting in falling():
            for states in lasting:
                found = notice_paper(house, wish, states)
                if found[0] == "missed":
                    self.assertIs(is_notice_paper(house, wish, states, found[:2] + found[:1:-1]), True)

    def test_long_rows(self):
        for row in (("m",) * 5000, ("a", "m") * 3000, ("a", "a", "m", "b", "m") * 2000):
            self.assertIs(is_notice_paper(duo(), calm(), (3,), ("missed", row, "b", "a")), True)
            self.assertIs(is_notice_paper(duo(), calm(), (3,), ("missed", row + ("a",), "b", "a")), False)
            self.assertIs(is_notice_paper(duo(), calm(), (3,), ("missed", row, "b", "m")), False)

    def test_deeds_that_are_not_apart(self):
        self.assertIs(is_notice_paper(duo(), once(), (2,), ("missed", (), "a", "b")), True)
        self.assertIs(is_notice_paper(duo(), once(), (2,), ("missed", (), "a", "a")), False)
        house = duo().given("m", "r").as_one("l", "r")
        self.assertIs(is_notice_paper(house, once(), (2,), ("missed", (), "a", "b")), False)

    def test_a_row_that_is_in_the_set(self):
        for row in (("a", "b"), ("a", "b", "m"), ("b", "a", "m", "m")):
            self.assertIs(is_notice_paper(duo(), calm(), (3,), ("missed", row, "a", "b")), False)

    def test_other_forms(self):
        values = [("noticed",), ["noticed"], "noticed", ("noticed", ()), (("noticed",),), ("missed",), {"noticed": 0}, ()]
        values += [("missed", (), "a", "a"), ("missed", (), "a", "m"), ("missed", ["m"], "a", "b"), ("missed", ("m",), "a")]
        values += [("missed", ("m",), "a", "b", 0), ("missed", ("m",), ("a", "b")), ["missed", (), "a", "b"], ("", (), "a", "b")]
        values += [("missed", "m", "a", "b"), ("missed", ("z",), "a", "b"), ("missed", (), "a", "z"), ("missed", (), "l", "r")]
        values += [("missed", (), ("a",), "b"), ("missed", (), "a", ["b"]), ("noticed", (), "a", "b"), ("missed", None, "a", "b")]
        for odd in values + odd_values() + [(odd,) for odd in odd_values()] + [("missed", odd, "a", "b") for odd in odd_values()]:
            self.assertIs(is_notice_paper(duo(), calm(), (3,), odd), odd == ("missed", (), "a", "b"))
        for odd in odd_values():
            self.assertIs(is_notice_paper(duo(), calm(), (3,), (odd, (), "a", "b")), False)
            self.assertIs(is_notice_paper(duo(), calm(), (3,), ("missed", (odd,), "a", "b")), False)
            self.assertIs(is_notice_paper(duo(), calm(), (3,), ("missed", (), odd, "b")), False)
            self.assertIs(is_notice_paper(duo(), calm(), (3,), ("missed", (), "a", odd)), False)
        for odd in values + odd_values():
            self.assertIs(is_notice_paper(duo(), calm(), (), odd), odd == ("noticed",) and type(odd) is tuple)


class LeastNoticed(Case):
    def wanted(self, noticed, states):
        over = [set(one) for one in noticed if set(states) <= set(one)]
        return tuple(sorted(tuple(sorted(one)) for one in over if not any(other < one for other in over)))

    def test_all_sets_of_states(self):
        answers = []
        for house, wish, _ in falling():
            noticed = noticed_sets(house, wish)
            for states in again.subsets(tuple(range(len(wish)))):
                found = least_noticed(house, wish, states)
                self.assertEqual(found, self.wanted(noticed, states), (house, wish, states))
                answers.append(len(found))
        self.assertTrue({1, 2, 3, 4} <= set(answers), set(answers))

    def test_of_noticed_sets(self):
        for house, wish, lasting in falling():
            for states in lasting:
                if is_noticed(house, wish, states):
                    self.assertEqual(least_noticed(house, wish, states), (states,))

    def test_gadgets(self):
        # One of two states is chosen for each of two that a and b lead to.
        found = least_noticed(duo(), gadgets(2), hopeless(gadgets(2)))
        self.assertEqual([len(found), {len(states) for states in found}], [4, {3}])
        self.assertEqual(found, self.wanted(noticed_sets(duo(), gadgets(2)), hopeless(gadgets(2))))

    def test_many(self):
        house, wish = seven()
        lost = hopeless(wish)
        found = least_noticed(house, wish, lost)
        self.assertEqual([len(wish), len(found), len(set(found)), found == tuple(sorted(found))], [22, 128, 128, True])
        for states in found:
            self.assertEqual(len(states), 8)
            self.assertIs(is_noticed(house, wish, states), True)
            self.assertTrue(set(lost) <= set(states))

    def test_limit(self):
        self.assertEqual(module.MAX_SETS, 200)
        house, wish = seven()
        with patch.object(module, "MAX_SETS", 128):
            self.assertEqual(len(least_noticed(house, wish, hopeless(wish))), 128)
        with patch.object(module, "MAX_SETS", 127):
            self.too_many(127, least_noticed, house, wish, hopeless(wish))
            self.assertEqual(least_noticed(house, wish, ()), ((),))

    def test_wide(self):
        wish = turning(crowd(), 24, {})
        self.assertEqual(least_noticed(crowd(), wish, (5,)), (tuple(range(24)),))
        house = House(tuple("abcde"), {hand: (hand,) for hand in "abcde"})
        wish = grid(house, {"a": 1, "b": 1, "c": 1, "d": 2})
        self.assertEqual(len(wish), 24)
        found = least_noticed(house, wish, (wish.after(tuple("abcdd")),))
        self.assertEqual(sorted(len(states) for states in found), [8, 12, 12, 12])


class Errors(Case):
    # Each call with what stands between a wish and a set of states in it, and what follows.
    calls = (
        (is_noticed, (), ()), (knowers, ((),), ()), (first_notice, ((),), ()), (notice_paper, (), ()),
        (is_notice_paper, (), (None,)), (least_noticed, (), ()),
    )

    def test_house_and_wish(self):
        for call, ahead, more in self.calls:
            for odd in odd_values_but(House):
                self.caught(InvalidHouse, call, odd, calm(), *ahead, (3,), *more)
                self.caught(InvalidHouse, call, odd, odd, *[odd for _ in ahead], odd, *more)
            for odd in odd_values_but(Wish):
                self.caught(InvalidWish, call, duo(), odd, *ahead, (3,), *more)
                self.caught(InvalidWish, call, line(), odd, *[odd for _ in ahead], odd, *more)

    def test_row(self):
        for call in (knowers, first_notice):
            for odd in odd_values() + ["a", ["a"], ("z",), ("a", ["b"]), ("l",), {}, []]:
                self.caught(InvalidRow, call, duo(), calm(), odd, (3,))
                self.caught(InvalidRow, call, duo(), calm(), odd, odd)
                self.caught(InvalidRow, call, line(), first(), odd, odd)

    def test_states(self):
        for call, ahead, more in self.calls:
            for odd in no_states(4):
                self.caught(InvalidOperation, call, duo(), calm(), *ahead, odd, *more)
            for odd in no_states(3):
                self.caught(InvalidOperation, call, duo(), first(), *ahead, odd, *more)

    def test_sets_that_are_not_lasting(self):
        for call, ahead, more in self.calls[:-1]:
            for states in ((0,), (1,), (0, 1, 2), (1, 3), (2, 3)):
                self.caught(InvalidOperation, call, duo(), calm(), *ahead, states, *more)
            self.caught(InvalidOperation, call, duo(), first(), *ahead, (0,), *more)
        self.assertEqual(least_noticed(duo(), calm(), (1,)), ((0, 1, 2, 3),))
        self.caught(Unsteady, least_noticed, duo(), first(), (0,))

    def test_belongs_and_steady(self):
        for call, ahead, more in self.calls:
            for wish in (calm(), first()):
                self.caught(InvalidOperation, call, line(), wish, *ahead, (), *more)
                self.caught(InvalidOperation, call, duo().with_deed("c", ("l",)), wish, *ahead, (), *more)
            found = self.caught(Unsteady, call, duo(), first(), *ahead, (1,), *more).breach
            self.assertIs(is_breach(duo(), first(), found), True)
            self.caught(Unsteady, call, duo().given("m", "r"), calm(), *ahead, (3,), *more)

    def test_whatever_the_value_is(self):
        for odd in odd_values():
            self.caught(InvalidOperation, is_notice_paper, duo(), calm(), (0,), odd)
            self.caught(Unsteady, is_notice_paper, duo(), first(), (1,), odd)

    def test_far_hands(self):
        wish = grid(snake(), {"bc": 1, "de": 1})
        both = wish.after(("bc", "de"))
        self.assertEqual(knowers(snake(), wish, ("bc", "de"), (both,)), ())
        self.assertEqual(knowers(snake(), wish, ("bc", "de", "ac", "ae"), (both,)), ("a", "e"))
