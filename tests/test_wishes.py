"""[0.10], [4.1], stage 4: wishes, their least machines, and what one of them tells."""

from itertools import permutations, product
from random import Random

from eachshare.base.houses import House
from eachshare.errors import InvalidOperation, InvalidRow, InvalidWish, UnknownName
from eachshare.wish import wishes as module
from eachshare.wish.wishes import Wish
from tests import again
from tests.samples import Case, calm, duo, even, first, no_numbers, odd_share, odd_values, odd_values_but, once

AB = ("a", "b")
EIGHT = ("a", "b", "c", "d", "e", "f", "g", "h")


def machines(seed, many, most, deeds=AB):
    rng = Random(seed)
    return [again.random_machine(rng, deeds, most) for _ in range(many)]


def circle(size, given):
    """The machine that counts one deed up to a size, each state of it told several times."""
    return ("a",), tuple(((state + 1) % given,) for state in range(given)), tuple(range(0, given, size))


def parts(wish):
    return wish.deeds, wish.targets, wish.kept


def samples():
    return [even(), once(), calm(), first(), Wish(("z",), ((0,),), ()), Wish(EIGHT, ((0,) * 8,), (0,))]


class Least(Case):
    def test_rows(self):
        for machine in machines(1, 300, 6):
            wish = Wish(*machine)
            wanted = again.kept_rows(machine, 6)
            self.assertEqual([row for row in again.all_rows(AB, 6) if row in wish], wanted)

    def test_number_of_states(self):
        for machine in machines(2, 300, 7):
            self.assertEqual(len(Wish(*machine)), again.sorts_of_states(machine))

    def test_numbered_as_they_are_met(self):
        for deeds in (("a",), AB, ("a", "b", "m")):
            for machine in machines(3, 100, 5, deeds):
                wish = Wish(*machine)
                self.assertEqual(again.states_as_met(wish, 4), list(range(len(wish))))

    def test_equal_rows_equal_parts(self):
        found = {}
        for machine in machines(4, 500, 3):
            # Two wishes with three states each differ, if at all, in a row of at most four deeds.
            found.setdefault(tuple(again.kept_rows(machine, 4)), []).append(Wish(*machine))
        self.assertGreater(max(len(some) for some in found.values()), 3)
        for some in found.values():
            self.assertEqual({parts(wish) for wish in some}, {parts(some[0])})
            self.assertTrue(all(wish == some[0] for wish in some))
        firsts = [some[0] for some in found.values()]
        self.assertFalse(any(one == other for at, one in enumerate(firsts) for other in firsts[:at]))

    def test_states_in_another_order(self):
        for deeds, targets, kept in machines(5, 40, 4):
            for order in permutations(range(1, len(targets))):
                new = dict(zip(range(len(targets)), (0,) + order))
                old = {new[state]: state for state in new}
                moved = tuple(tuple(new[target] for target in targets[old[at]]) for at in range(len(targets)))
                self.assertEqual(parts(Wish(deeds, moved, tuple(sorted(new[at] for at in kept)))), parts(Wish(deeds, targets, kept)))

    def test_states_told_twice(self):
        rng = Random(6)
        for deeds, targets, kept in machines(6, 100, 5):
            many = len(targets)
            twice = [tuple(target + many * rng.randrange(2) for target in ends) for ends in targets + targets]
            wish = Wish(deeds, tuple(twice), kept + tuple(state + many for state in kept))
            self.assertEqual(parts(wish), parts(Wish(deeds, targets, kept)))

    def test_states_that_never_come_up(self):
        for deeds, targets, kept in machines(7, 100, 5):
            many = len(targets)
            more = targets + ((many + 1, 0), (many, many)) + ((0, 0),) * 9
            for also in ((), (many,), (many, many + 1, many + 10)):
                self.assertEqual(parts(Wish(deeds, more, kept + also)), parts(Wish(deeds, targets, kept)))

    def test_the_least_machine_is_its_own(self):
        for machine in machines(8, 100, 9):
            wish = Wish(*machine)
            self.assertEqual(parts(Wish(*parts(wish))), parts(wish))

    def test_one_state(self):
        for deeds in (("a",), AB, EIGHT):
            ends = (0,) * len(deeds)
            self.assertEqual(parts(Wish(deeds, (ends,), ())), (deeds, (ends,), ()))
            self.assertEqual(parts(Wish(deeds, (ends,), (0,))), (deeds, (ends,), (0,)))
            self.assertEqual(parts(Wish(deeds, ((1,) * len(deeds), ends), (0, 1))), (deeds, (ends,), (0,)))

    def test_kinds_of_values(self):
        for wish in samples():
            self.assertEqual({type(part) for part in parts(wish)} | {type(ends) for ends in wish.targets}, {tuple})
            self.assertEqual({type(state) for ends in wish.targets for state in ends + wish.kept}, {int})

    def test_known(self):
        wish = Wish(("a", "b"), ((3, 1), (2, 2), (2, 1), (1, 2)), (1,))
        self.assertEqual(parts(wish), (("a", "b"), ((1, 2), (2, 3), (3, 3), (3, 2)), (2,)))


class Limits(Case):
    def test_constants(self):
        self.assertEqual((module.MAX_STATES, module.MAX_GIVEN), (24, 100))

    def test_least_states(self):
        for size in range(1, 25):
            self.assertEqual(len(Wish(*circle(size, size))), size)
        for size in range(25, 101):
            self.too_many(24, Wish, *circle(size, size))

    def test_least_states_of_many(self):
        self.assertEqual(len(Wish(*circle(24, 96))), 24)
        self.assertEqual(len(Wish(*circle(20, 100))), 20)
        self.assertEqual(len(Wish(*circle(1, 100))), 1)
        self.too_many(24, Wish, *circle(25, 75))
        self.too_many(24, Wish, *circle(25, 100))
        self.too_many(24, Wish, *circle(50, 100))

    def test_least_states_of_other_forms(self):
        for many in (23, 24, 25, 26):
            line = tuple((min(state + 1, many - 1),) * 8 for state in range(many))
            if many <= 24:
                self.assertEqual(len(Wish(EIGHT, line, (many - 1,))), many)
                self.assertEqual(len(Wish(EIGHT, line + ((0,) * 8,), (many - 1,))), many)
            else:
                self.too_many(24, Wish, EIGHT, line, (many - 1,))

    def test_given_states(self):
        self.assertEqual(len(Wish(("a",), ((99,),) + ((0,),) * 99, ())), 1)
        self.caught(InvalidWish, Wish, ("a",), ((0,),) * 101, ())
        self.caught(InvalidWish, Wish, *circle(1, 101))
        self.caught(InvalidWish, Wish, *circle(101, 101))
        self.caught(InvalidWish, Wish, ("a",), (), ())

    def test_too_many_comes_last(self):
        deeds, targets, kept = circle(30, 30)
        self.caught(InvalidWish, Wish, deeds, targets, kept + (30,))
        self.caught(InvalidWish, Wish, deeds + ("a",), targets, kept)
        self.caught(InvalidWish, Wish, deeds, targets + ((31,),), kept)

    def test_deeds(self):
        for many in range(1, 9):
            self.assertEqual(Wish(EIGHT[:many], ((0,) * many,), ()).deeds, EIGHT[:many])
        self.caught(InvalidWish, Wish, (), ((),), ())
        self.caught(InvalidWish, Wish, EIGHT + ("i",), ((0,) * 9,), ())


class Wrong(Case):
    def test_deeds(self):
        wrong = odd_values() + [("b", "a"), ("a", "a"), ("a", "B"), ["a", "b"], "ab", {"a": 0, "b": 1}, {}, ("a", "overlongx")]
        for odd in wrong + [("a", odd) for odd in odd_values()]:
            self.caught(InvalidWish, Wish, odd, ((0, 0),), (0,))
            self.caught(InvalidWish, Wish, odd, odd, odd)

    def test_targets(self):
        wrong = odd_values() + [[(0, 0)], ([0, 0],), ((0,),), ((0, 0, 0),), ((0, 1),), ((0, -1),), ((0, 0), (0, 2)), (0, 0), {}, []]
        for odd in wrong + [((0, odd),) for odd in no_numbers(1)] + [((0, 0), odd) for odd in odd_values() + [(), [0, 0]]]:
            self.caught(InvalidWish, Wish, AB, odd, (0,))
            self.caught(InvalidWish, Wish, AB, odd, odd)

    def test_kept(self):
        targets = ((0, 1), (1, 2), (2, 0))
        wrong = odd_values() + [[0], (0, 0), (1, 0), (0, 2, 1), (3,), (-1,), (0, 1, 2, 3), {0: 0}, {}, [], 0]
        wrong = [odd for odd in wrong if odd != (1,)] + [(True,), (0, True), (False,), (False, 1)]
        for odd in wrong + [(odd,) for odd in no_numbers(3)] + [(0, odd) for odd in no_numbers(3)]:
            self.caught(InvalidWish, Wish, AB, targets, odd)

    def test_true_is_no_state(self):
        self.caught(InvalidWish, Wish, AB, ((True, 0), (0, 0)), ())
        self.caught(InvalidWish, Wish, AB, ((False, 1), (0, 0)), ())
        self.caught(InvalidWish, Wish, AB, ((0, 1), (0, 0)), (True,))


class OfRows(Case):
    def test_all_sets_of_short_rows(self):
        rows = again.all_rows(AB, 2)
        for chosen in product((False, True), repeat=len(rows)):
            some = tuple(row for row, there in zip(rows, chosen) if there)
            wish = Wish.of_rows(AB, some)
            self.assertEqual([row for row in again.all_rows(AB, 4) if row in wish], list(some))
            self.assertEqual(len(wish), again.sorts_of_rests(AB, some))
            self.assertEqual(parts(Wish.of_rows(AB, some[::-1] + some)), parts(wish))

    def test_longer_rows(self):
        rng = Random(9)
        sizes = set()
        for _ in range(300):
            some = {again.random_row(rng, ("a", "b", "m"), rng.randint(0, 9)) for _ in range(rng.randint(1, 9))}
            wanted = again.sorts_of_rests(("a", "b", "m"), some)
            sizes.add(wanted)
            if wanted > 24:
                self.too_many(24, Wish.of_rows, ("a", "b", "m"), tuple(some))
            else:
                wish = Wish.of_rows(("a", "b", "m"), tuple(some))
                self.assertEqual((len(wish), sum(wish.count(size) for size in range(11))), (wanted, len(some)))
                self.assertTrue(all(row in wish for row in some))
        self.assertTrue({23, 24, 25, 26} <= sizes)

    def test_the_longest_row(self):
        for many in range(23):
            self.assertEqual(len(Wish.of_rows(("a",), (("a",) * many,))), many + 2)
            self.assertEqual(Wish.of_rows(("a",), (("a",) * many,)).shortest(), ("a",) * many)
        for many in (23, 24, 25, 400, 200000):
            self.too_many(24, Wish.of_rows, ("a",), (("a",) * many,))
            self.too_many(24, Wish.of_rows, AB, ((), ("b",) * many))

    def test_no_rows(self):
        self.assertEqual(parts(Wish.of_rows(AB, ())), (AB, ((0, 0),), ()))
        self.assertEqual(parts(Wish.of_rows(AB, ((),))), (AB, ((1, 1), (1, 1)), (0,)))

    def test_deeds(self):
        wrong = odd_values() + [(), ("b", "a"), ("a", "a"), ["a", "b"], "ab", {}, EIGHT + ("i",)]
        for odd in wrong:
            self.caught(InvalidWish, Wish.of_rows, odd, (("a",),))
            self.caught(InvalidWish, Wish.of_rows, odd, odd)
            self.caught(InvalidWish, Wish.of_rows, odd, [("z",)])

    def test_rows(self):
        for odd in odd_values() + [[("a",)], {("a",): 1}, "a", {}, []]:
            wanted = InvalidRow if isinstance(odd, tuple) else InvalidOperation
            self.caught(wanted, Wish.of_rows, AB, odd)
        for odd in odd_values() + ["a", ["a"], ("z",), ("a", "m"), ("a", ["b"]), (("a",),), {}]:
            self.caught(InvalidRow, Wish.of_rows, AB, (odd,))
            self.caught(InvalidRow, Wish.of_rows, AB, (("a",), odd, ("b",)))
            self.caught(InvalidRow, Wish.of_rows, AB, (("a",) * 30, odd))
            self.caught(InvalidRow, Wish.of_rows, AB, (("a", (odd,)),))


class Telling(Case):
    def test_contains(self):
        for wish in samples():
            wanted = again.kept_rows(parts(wish), 3)
            self.assertEqual([row for row in again.all_rows(wish.deeds, 3) if row in wish], wanted)
            for odd in odd_values() + [["a"], "a", ("zz",), ("a", "zz"), ("a", ["a"]), {}, [], {"a": 1}] + list(EIGHT):
                self.assertIs(odd in wish, False)
                self.assertIs((odd,) in wish, (odd,) in wanted)

    def test_long_rows(self):
        for wish in samples():
            row = again.random_row(Random(10), wish.deeds, 20000)
            state = again.end(*parts(wish)[:2], row)
            self.assertEqual(wish.after(row), state)
            self.assertIs(row in wish, state in wish.kept)
            self.assertIs(row + ("zz",) in wish, False)

    def test_targets_one_by_one(self):
        for wish in samples():
            for state, ends in enumerate(wish.targets):
                self.assertEqual([wish[state, deed] for deed in wish.deeds], list(ends))

    def test_after(self):
        for wish in samples():
            for row in again.all_rows(wish.deeds, 3):
                self.assertEqual(wish.after(row), again.end(wish.deeds, wish.targets, row))
                for state in range(len(wish)):
                    wanted = again.end(wish.deeds, wish.targets, row, state)
                    self.assertEqual([wish.after(row, state), wish.after(row, state=state)], [wanted] * 2)

    def test_far(self):
        for wish in samples() + [Wish(*machine) for machine in machines(11, 100, 6)]:
            rows = again.all_rows(wish.deeds, 2 if len(wish.deeds) > 3 else 5)
            for state in range(len(wish)):
                wanted = sorted({again.end(wish.deeds, wish.targets, row, state) for row in rows})
                self.assertEqual(wish.far(state), tuple(wanted))
        self.assertEqual(Wish(*circle(24, 24)).far(7), tuple(range(24)))

    def test_truth_and_length(self):
        for wish in samples() + [Wish(*machine) for machine in machines(12, 100, 3)]:
            self.assertIs(bool(wish), any(row in wish for row in again.all_rows(wish.deeds, 3)))
            self.assertEqual(len(wish), len(wish.targets))

    def test_text(self):
        self.assertEqual([str(even()), str(once())], ["wish of 2 states, 3 deeds", "wish of 3 states, 3 deeds"])
        self.assertEqual(str(Wish(("z",), ((0,),), ())), "wish of 1 states, 1 deeds")
        self.assertEqual(str(Wish(*circle(24, 24))), "wish of 24 states, 1 deeds")

    def test_equal(self):
        for at, one in enumerate(samples()):
            for place, other in enumerate(samples()):
                self.assertIs(one == other, at == place)
                self.assertIs(one != other, at != place)

    def test_equal_needs_each_part(self):
        self.assertIs(even() == Wish(("a", "b", "n"), even().targets, even().kept), False)
        self.assertIs(even() == Wish(even().deeds, even().targets, (1,)), False)
        self.assertIs(even() == Wish(even().deeds, ((1, 1, 0), (0, 1, 1)), (0,)), False)

    def test_equal_to_no_other_kind(self):
        values = odd_values() + [parts(even()), str(even()), repr(even()), (), "a", len(even()), odd_share(), duo()]
        for odd in values:
            same = isinstance(odd, Wish) and parts(odd) == parts(even())
            for wish in (even(), Wish(("z",), ((0,),), ())):
                self.assertIs(wish == odd, same and wish == even())
                self.assertIs(wish != odd, not (same and wish == even()))
                self.assertIs(odd == wish, same and wish == even())

    def test_not_iterated_over(self):
        for wish in samples():
            self.not_iterated_over(wish)

    def test_equal_wishes_show_alike(self):
        twice = Wish(("a", "b", "m"), ((1, 3, 2), (2, 0, 3), (3, 1, 0), (0, 2, 1)), (0, 2))
        self.assertEqual(twice, even())
        self.assertEqual(repr(twice), repr(even()))
        self.assertEqual(str(UnknownName(twice)), str(UnknownName(even())))
        self.assertNotEqual(repr(even()), repr(~even()))

    def test_properties_are_not_assigned(self):
        for name in ("deeds", "targets", "kept"):
            self.caught(AttributeError, setattr, even(), name, ())


class TellingErrors(Case):
    def test_index(self):
        for odd in odd_values_but(tuple) + [(), (0,), (0, "a", 0), [0, "a"], "ab", {0: "a"}, 0, "a"]:
            self.caught(InvalidOperation, even().__getitem__, odd)
        for odd in no_numbers(2):
            self.wrong_number(odd, even().__getitem__, (odd, "a"))
            self.wrong_number(odd, even().__getitem__, (odd, "z"))
            self.wrong_number(odd, even().__getitem__, (odd, odd))
        for odd in odd_values() + ["z", 0, ("a",), ["a"], (), {}]:
            self.unknown(odd, even().__getitem__, (0, odd))

    def test_after(self):
        for odd in odd_values() + ["a", ["a"], ("z",), ("a", ["b"]), {}, []]:
            self.caught(InvalidRow, even().after, odd)
            self.caught(InvalidRow, even().after, odd, 9)
            self.caught(InvalidRow, even().after, odd, odd)
            self.caught(InvalidRow, even().after, ("a", (odd,)))
        for odd in no_numbers(2):
            self.wrong_number(odd, even().after, ("a",), odd)
            self.wrong_number(odd, even().after, (), odd)

    def test_far(self):
        for wish in samples():
            for odd in no_numbers(len(wish)):
                self.wrong_number(odd, wish.far, odd)

    def test_asking_changes_nothing(self):
        for wish in samples():
            before = parts(wish)
            for odd in odd_values():
                self.assertIs(odd in wish, False)
                self.caught(InvalidRow, wish.after, odd)
            self.assertEqual(parts(wish), before)

    def test_a_house_is_no_wish(self):
        self.assertIs(House(("a",), {"z": ("a",)}) == Wish(("z",), ((0,),), ()), False)
