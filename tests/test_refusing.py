"""[13.1], [13.2], stage 13: deeds that are refused, and rows that are let."""

from random import Random

from eachshare.base.houses import House
from eachshare.errors import InvalidHouse, InvalidOperation, InvalidRow, InvalidWish, Unsteady
from eachshare.know.noticing import is_noticed
from eachshare.know.refusing import is_let, is_refusal_paper, is_refused, let_rows, refusal_paper
from eachshare.share.steady import is_breach, is_steady
from eachshare.wish.wishes import Wish
from tests import again
from tests.samples import Case, calm, crowd, duo, even, falling, first, gadgets, grid, line, no_states, odd_values
from tests.samples import odd_values_but, once, turning


def some_rows(rng, house, many):
    return [again.random_row(rng, house.deeds, rng.randint(0, 8)) for _ in range(many)]


def short_rows(house):
    return again.all_rows(house.deeds, 4 if len(house.deeds) < 4 else 3)


def refuses(house, wish, row, deed, states):
    """Whether the deed is refused behind the row, by pasts."""
    known = again.joint_past(house, row, house[deed])
    return wish.after(known + (deed,)) in states


def lets(house, wish, row, states):
    """Whether the row is let, by pasts."""
    if 0 in states:
        return False
    return not any(refuses(house, wish, row[:many], deed, states) for many, deed in enumerate(row))


class Refused(Case):
    def test_by_pasts(self):
        rng = Random(1)
        answers = []
        for house, wish, lasting in falling():
            for row in some_rows(rng, house, 4):
                for states in lasting[:8]:
                    for deed in house.deeds:
                        answers.append(refuses(house, wish, row, deed, states))
                        self.assertIs(is_refused(house, wish, row, deed, states), answers[-1])
        self.assertTrue(100 < sum(answers) < len(answers) - 100)

    def test_all_short_rows(self):
        for wish in (calm(), once(), grid(duo(), {"a": 1, "b": 1})):
            for states in again.lasting_sets(wish):
                for row in again.all_rows(("a", "b", "m"), 3):
                    for deed in ("a", "b", "m"):
                        wanted = refuses(duo(), wish, row, deed, states)
                        self.assertIs(is_refused(duo(), wish, row, deed, states), wanted)

    def test_alike_rows(self):
        rng = Random(2)
        for house, wish, lasting in falling():
            row = again.random_row(rng, house.deeds, 5)
            for other in again.alike(house, row)[:10]:
                for states in lasting[:4]:
                    for deed in house.deeds:
                        self.assertIs(is_refused(house, wish, row, deed, states), is_refused(house, wish, other, deed, states))

    def test_no_state_and_all(self):
        for house, wish, _ in falling():
            for deed in house.deeds:
                self.assertIs(is_refused(house, wish, house.deeds, deed, ()), False)
                self.assertIs(is_refused(house, wish, house.deeds, deed, tuple(range(len(wish)))), True)

    def test_rows_of_thousands_of_deeds(self):
        row = ("a", "m", "b", "m") * 1500 + ("a",)
        answers = [is_refused(duo(), calm(), row + more, deed, (3,)) for more in ((), ("b",)) for deed in ("a", "b", "m")]
        self.assertEqual(answers, [False, False, False, False, False, True])

    def test_state_zero_in_the_set(self):
        self.assertIs(is_refused(duo(), calm(), (), "a", (0, 1, 2, 3)), True)


class Let(Case):
    def test_by_pasts(self):
        rng = Random(3)
        answers = []
        for house, wish, lasting in falling():
            for row in some_rows(rng, house, 4):
                for states in lasting[:8]:
                    answers.append(lets(house, wish, row, states))
                    self.assertIs(is_let(house, wish, row, states), answers[-1])
        self.assertTrue(30 < sum(answers) < len(answers) - 30)

    def test_no_state_and_all(self):
        for house, wish, _ in falling():
            for row in ((), house.deeds):
                self.assertIs(is_let(house, wish, row, ()), True)
                self.assertIs(is_let(house, wish, row, tuple(range(len(wish)))), False)

    def test_alike_rows_and_beginnings(self):
        rng = Random(4)
        for house, wish, lasting in falling():
            for row in some_rows(rng, house, 3):
                for states in lasting[:5]:
                    answers = {is_let(house, wish, other, states) for other in again.alike(house, row[:5])[:15]}
                    self.assertEqual(len(answers), 1)
                    begun = [is_let(house, wish, row[:many], states) for many in range(len(row) + 1)]
                    self.assertEqual(begun, sorted(begun)[::-1])

    def test_no_hand_of_the_last_deed_knows(self):
        for house, wish, lasting in falling():
            for states in lasting[:5]:
                for row in short_rows(house)[1:50]:
                    if is_let(house, wish, row, states):
                        known = again.knowers(house, wish, row, states)
                        self.assertFalse(set(known) & set(house[row[-1]]))

    def test_of_noticed_sets(self):
        for house, wish, lasting in falling():
            for states in lasting[:8]:
                if is_noticed(house, wish, states):
                    for row in short_rows(house)[:60]:
                        wanted = not any(wish.after(row[:many]) in states for many in range(len(row) + 1))
                        self.assertIs(is_let(house, wish, row, states), wanted)

    def test_rows_of_thousands_of_deeds(self):
        row = ("a", "m", "b", "m") * 1500 + ("a", "b")
        self.assertEqual([is_let(duo(), calm(), row + more, (3,)) for more in ((), ("m",), ("a", "b"))], [True, False, True])
        self.assertIs(is_let(crowd(), turning(crowd(), 24, {}), again.random_row(Random(5), crowd().deeds, 3000), ()), True)


class LetRows(Case):
    def test_short_rows(self):
        for house, wish, lasting in falling():
            for states in lasting[:8]:
                found = let_rows(house, wish, states)
                self.assertEqual([type(found), found.deeds], [Wish, house.deeds])
                for row in short_rows(house)[:200]:
                    self.assertIs(row in found, lets(house, wish, row, states))

    def test_longer_rows(self):
        rng = Random(6)
        for house, wish, lasting in falling()[::2]:
            for states in lasting[:4]:
                found = let_rows(house, wish, states)
                for row in some_rows(rng, house, 5):
                    self.assertIs(row in found, lets(house, wish, row, states))

    def test_steady(self):
        for house, wish, lasting in falling():
            for states in lasting[:8]:
                self.assertIs(is_steady(house, let_rows(house, wish, states)), True)

    def test_no_state_and_all(self):
        for house, wish, _ in falling():
            every = let_rows(house, wish, ())
            self.assertEqual([len(every), every.kept], [1, (0,)])
            none = let_rows(house, wish, tuple(range(len(wish))))
            self.assertEqual([len(none), none.kept], [1, ()])

    def test_known(self):
        found = let_rows(duo(), calm(), (3,))
        self.assertEqual([len(found), len(found.kept)], [5, 4])
        self.assertEqual([row in found for row in (("a", "b"), ("a", "b", "m"), ("a", "m", "b"))], [True, False, True])

    def alone(self):
        return House(("k", "l", "n"), {"a": ("k",), "b": ("l",), "c": ("n",)})

    def test_many_outlooks(self):
        house = self.alone()
        for wish in (turning(house, 16, {"c": 2}), turning(house, 24, {})):
            self.too_many(2000, let_rows, house, wish, ())
            self.too_many(2000, let_rows, house, wish, tuple(range(len(wish))))
        wish = turning(house, 20, {"b": 2, "c": 2})
        self.assertEqual(let_rows(house, wish, ()).kept, (0,))
        self.assertEqual(let_rows(house, wish, tuple(range(20))).kept, ())

    def test_many_states(self):
        # A hand refuses its deed when its own ones together weigh as much as the limit; the rows count them each.
        for limit, weights, wanted in ((2, (1, 1, 1), 9), (22, (1, 11, 22), 45), (11, (1, 6, 11), 23), (23, (1, 23, 23), 24)):
            wish = self.weighed(limit, weights)
            self.assertEqual(len(wish), limit + 1)
            lost = wish.after(("a",) * limit)
            if wanted <= 24:
                self.assertEqual(len(let_rows(self.alone(), wish, (lost,))), wanted)
            else:
                self.too_many(24, let_rows, self.alone(), wish, (lost,))
        wish = self.weighed(12, (1, 6, 12))
        self.too_many(24, let_rows, self.alone(), wish, (wish.after(("c",)),))

    def weighed(self, limit, weights):
        """The wish of the rows whose deeds weigh less than the limit."""
        ends = [tuple(min(count + weight, limit) for weight in weights) for count in range(limit + 1)]
        return Wish(("a", "b", "c"), tuple(ends), tuple(range(limit)))


class Papers(Case):
    def test_of_each_set(self):
        for house, wish, lasting in falling():
            for states in lasting:
                found = refusal_paper(house, wish, states)
                self.assertIs(is_refusal_paper(house, wish, states, found), True)
                if is_noticed(house, wish, states):
                    self.assertEqual(found, ("kept",))
                else:
                    self.assertEqual([type(found), len(found), found[0], type(found[1])], [tuple, 2, "lost", tuple])
                    self.assertIn(wish.after(found[1]), states)
                    self.assertTrue(lets(house, wish, found[1], states))

    def test_exactly_one_form(self):
        # By a row to each outlook behind which all deeds so far were let.
        for house, wish, lasting in falling():
            for states in lasting:
                met, waiting, lost = set(), [()], False
                while waiting:
                    row = waiting.pop()
                    place = again.outlook(house, wish, row)
                    if place not in met and lets(house, wish, row, states):
                        met.add(place)
                        lost = lost or wish.after(row) in states
                        waiting += [row + (deed,) for deed in house.deeds]
                self.assertIs(is_refusal_paper(house, wish, states, ("kept",)), not lost)
                self.assertEqual(refusal_paper(house, wish, states)[0], "lost" if lost else "kept")

    def test_all_short_rows(self):
        for house, wish, lasting in falling():
            for states in lasting[:6]:
                for row in short_rows(house)[:60]:
                    wanted = wish.after(row) in states and lets(house, wish, row, states)
                    self.assertIs(is_refusal_paper(house, wish, states, ("lost", row)), wanted)

    def test_state_zero_in_the_set(self):
        for house, wish, _ in falling():
            states = tuple(range(len(wish)))
            self.assertEqual(refusal_paper(house, wish, states), ("kept",))
            self.assertIs(is_refusal_paper(house, wish, states, ("lost", ())), False)

    def test_long_rows(self):
        row = ("a", "m", "b", "m") * 2000 + ("b", "a")
        self.assertIs(is_refusal_paper(duo(), calm(), (3,), ("lost", row)), True)
        self.assertIs(is_refusal_paper(duo(), calm(), (3,), ("lost", row + ("a",) * 3000)), True)
        self.assertIs(is_refusal_paper(duo(), calm(), (3,), ("lost", row + ("m",))), False)
        self.assertIs(is_refusal_paper(duo(), calm(), (3,), ("lost", row[:-1])), False)

    def test_many_states(self):
        house = duo()
        for deed in "cde":
            house = house.with_deed(deed, ("l", "r"))
        wish = gadgets(7)
        lost = wish.after(("a", "b"))
        found = refusal_paper(house, wish, (lost,))
        self.assertTrue(found[0] == "lost" and is_refusal_paper(house, wish, (lost,), found))
        self.assertIs(is_refusal_paper(house, wish, (lost,), ("lost", ("m",) * 6 + ("b", "a"))), True)

    def test_other_forms(self):
        values = [("kept",), ["kept"], "kept", ("kept", ()), (("kept",),), ("lost",), {"kept": 0}, (), ("lost", ["a", "b"])]
        values += [("lost", ("a", "b"), 0), ["lost", ("a", "b")], ("lost", "ab"), ("lost", ("a", "z")), ("kept", ("a", "b"))]
        values += [("lost", (("a", "b"),)), ("", ("a", "b")), ("lost", ()), ("lost", ("a",)), (("a", "b"), "lost"), ("Lost", ("a", "b"))]
        for odd in values + odd_values() + [(odd,) for odd in odd_values()] + [("lost", odd) for odd in odd_values()]:
            self.assertIs(is_refusal_paper(duo(), calm(), (3,), odd), False)
            self.assertIs(is_refusal_paper(duo(), calm(), (), odd), odd == ("kept",) and type(odd) is tuple)
        for odd in odd_values():
            self.assertIs(is_refusal_paper(duo(), calm(), (3,), (odd, ("a", "b"))), False)
            self.assertIs(is_refusal_paper(duo(), calm(), (3,), ("lost", ("a", odd))), odd == "b")


class Errors(Case):
    # Each call with what stands between a wish and a set of states in it, and what follows.
    calls = (
        (is_refused, ((), "a"), ()), (is_let, ((),), ()), (let_rows, (), ()), (refusal_paper, (), ()),
        (is_refusal_paper, (), (None,)),
    )

    def test_house_and_wish(self):
        for call, ahead, more in self.calls:
            for odd in odd_values_but(House):
                self.caught(InvalidHouse, call, odd, calm(), *ahead, (3,), *more)
                self.caught(InvalidHouse, call, odd, odd, *[odd for _ in ahead], odd, *more)
            for odd in odd_values_but(Wish):
                self.caught(InvalidWish, call, duo(), odd, *ahead, (3,), *more)
                self.caught(InvalidWish, call, line(), odd, *[odd for _ in ahead], odd, *more)

    def test_row(self):
        for call, ahead, _ in self.calls[:2]:
            for odd in odd_values() + ["a", ["a"], ("z",), ("a", ["b"]), ("l",), {}, []]:
                self.caught(InvalidRow, call, duo(), calm(), odd, *ahead[1:], (3,))
                self.caught(InvalidRow, call, line(), first(), odd, *[odd for _ in ahead[1:]], odd)

    def test_deed(self):
        for odd in odd_values() + ["l", "z", ("a",), ["a"]]:
            self.unknown(odd, is_refused, duo(), calm(), ("a",), odd, (3,))
            self.unknown(odd, is_refused, duo(), calm(), (), odd, odd)
            self.unknown(odd, is_refused, line(), first(), (), odd, (0,))

    def test_states(self):
        for call, ahead, more in self.calls:
            for odd in no_states(4) + [(0,), (1,), (0, 1, 2), (1, 3), (2, 3)]:
                self.caught(InvalidOperation, call, duo(), calm(), *ahead, odd, *more)
            for odd in no_states(3) + [(0,), (0, 1)]:
                self.caught(InvalidOperation, call, duo(), first(), *ahead, odd, *more)

    def test_belongs_and_steady(self):
        for call, ahead, more in self.calls:
            for wish in (calm(), first()):
                self.caught(InvalidOperation, call, line(), wish, *ahead, (), *more)
                self.caught(InvalidOperation, call, duo().with_deed("c", ("l",)), wish, *ahead, (), *more)
            found = self.caught(Unsteady, call, duo(), first(), *ahead, (1,), *more).breach
            self.assertIs(is_breach(duo(), first(), found), True)
            self.caught(Unsteady, call, duo().given("m", "r"), calm(), *ahead, (3,), *more)

    def test_whatever_the_value_is(self):
        for odd in odd_values():
            self.caught(InvalidOperation, is_refusal_paper, duo(), calm(), (0,), odd)
            self.caught(Unsteady, is_refusal_paper, duo(), first(), (1,), odd)

    def test_one_set_for_each_wish(self):
        self.caught(InvalidOperation, is_let, duo(), even(), (), (0,))
        self.assertEqual([is_let(duo(), once(), ("a", "b"), (2,)), is_let(duo(), once(), ("a", "a"), (2,))], [True, False])
