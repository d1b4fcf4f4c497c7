"""[18.1], stage 18: a house at work."""

from random import Random

from eachshare.base.houses import House
from eachshare.base.rows import own_row
from eachshare.desk.desk import Desk
from eachshare.errors import (
    InvalidHouse, InvalidName, InvalidNumber, InvalidOperation, InvalidRow, InvalidWish, NothingToUndo, Refused, TooMany,
    UnknownName, Unsteady,
)
from eachshare.know.knowing import does_know, may_be, view
from eachshare.know.refusing import is_let, is_refused
from eachshare.share.steady import is_breach, is_steady
from eachshare.wish.wishes import Wish
from tests import again
from tests.samples import Case, calm, crowd, duo, even, falling, first, grid, groves, line, nested, no_hands, no_states
from tests.samples import odd_values, odd_values_but, once, snake, steady, turning

NAMES = ("a", "calm", "even", "once", "zz")
CALLS = ("keep", "forget", "do", "do_all", "merge", "give")


def working():
    """A desk of duo with two wishes, one of them guarded, and deeds that are done."""
    desk = Desk(duo())
    desk.keep("calm", calm(), guarded=(3,))
    desk.keep("even", even())
    desk.do_all(("a", "b"))
    return desk


def told(desk):
    """All that a desk tells of itself."""
    wishes = {name: (desk[name], desk.guard(name), desk.has(name), desk.can_do(name)) for name in desk}
    rows = {hand: desk.own_row(hand) for hand in desk.house.hands}
    return [desk.house, desk.row, desk.names, wishes, rows, len(desk), str(desk), list(desk)]


def moves(desk):
    """How many calls can be undone and done again, by trying it with a twin."""
    found = []
    for name in ("undo", "redo"):
        twin, many = desk.twin(), 0
        while True:
            try:
                getattr(twin, name)()
            except NothingToUndo:
                break
            many += 1
        found.append(many)
    return tuple(found)


def everything(desk):
    """All that a desk tells, also when each call is undone or done again."""
    found = [told(desk), moves(desk)]
    for name, many in zip(("undo", "redo"), moves(desk)):
        twin = desk.twin()
        for _ in range(many):
            getattr(twin, name)()
            found.append(told(twin))
    return found


class Record:
    """What a desk should tell: a second working-out by the sections that it refers to, with a list of all that was."""

    def __init__(self, house):
        self.stands = [(house, (), {})]
        self.place = 0

    def now(self):
        return self.stands[self.place]

    def put(self, *stand):
        self.stands = self.stands[:self.place + 1] + [stand]
        self.place += 1

    def is_let(self, house, row, wishes):
        return next((name for name in sorted(wishes) if not is_let(house, wishes[name][0], row, wishes[name][1])), None)

    def keep(self, name, wish, guarded):
        house, row, wishes = self.now()
        if wish.deeds != house.deeds:
            return InvalidOperation
        if not is_steady(house, wish):
            return Unsteady
        if not is_let(house, wish, row, guarded):
            return Refused, name
        self.put(house, row, {**wishes, name: (wish, guarded)})
        return None

    def forget(self, name):
        house, row, wishes = self.now()
        if name not in wishes:
            return UnknownName, name
        self.put(house, row, {other: kept for other, kept in wishes.items() if other != name})
        return None

    def do(self, deed):
        return (UnknownName, deed) if deed not in self.now()[0].deeds else self.do_all((deed,))

    def do_all(self, deeds):
        house, row, wishes = self.now()
        if any(deed not in house.deeds for deed in deeds):
            return InvalidRow
        for many, deed in enumerate(deeds):
            for name in sorted(wishes):
                if is_refused(house, wishes[name][0], row + deeds[:many], deed, wishes[name][1]):
                    return Refused, name
        self.put(house, row + deeds, wishes)
        return None

    def move(self, other):
        house, row, wishes = self.now()
        if not all(is_steady(other, wish) for wish, _ in wishes.values()):
            return Unsteady
        name = self.is_let(other, row, wishes)
        if name is not None:
            return Refused, name
        self.put(other, row, wishes)
        return None

    def merge(self, one, other):
        house = self.now()[0]
        for hand in (one, other):
            if hand not in house:
                return UnknownName, hand
        if one == other:
            return InvalidOperation
        try:
            return self.move(house.as_one(one, other))
        except InvalidHouse:
            return InvalidHouse

    def give(self, deed, hand):
        house = self.now()[0]
        if deed not in house.deeds or hand not in house:
            return UnknownName, deed if deed not in house.deeds else hand
        if len(house[deed]) < 2 or hand not in house[deed]:
            return InvalidOperation
        return self.move(house.given(deed, hand))


class Histories(Case):
    def call(self, desk, name, given):
        """What a call raises, None if nothing: the class, or the class and what the error keeps."""
        try:
            more = {"guarded": given[2]} if name == "keep" else {}
            self.assertIs(getattr(desk, name)(*given[:2] if more else given, **more), None)
        except (UnknownName, Refused) as error:
            return type(error), error.name
        except (InvalidOperation, InvalidRow, InvalidHouse, Unsteady) as error:
            return type(error)
        return None

    def drawn_call(self, rng, house, wishes):
        name = rng.choice(CALLS + ("do", "do", "do_all", "do_all"))
        if name == "keep":
            wish, lasting = rng.choice(wishes)
            return name, (rng.choice(NAMES), wish, rng.choice([()] + lasting))
        if name == "forget":
            return name, (rng.choice(NAMES),)
        if name == "do":
            return name, (rng.choice(house.deeds + ("zz",)),)
        if name == "do_all":
            return name, (again.random_row(rng, house.deeds + (("zz",) if rng.random() < 0.1 else ()), rng.randint(0, 4)),)
        if name == "merge":
            return name, (rng.choice(house.hands + ("zz",)), rng.choice(house.hands))
        return name, (rng.choice(house.deeds), rng.choice(house.hands))

    def pools(self):
        found = {}
        for house, wish, lasting in falling():
            found.setdefault(repr(house), (house, []))[1].append((wish, lasting))
        for house, wish in steady(71, each=2, most=5):
            if repr(house) in found:
                found[repr(house)][1].append((wish, again.lasting_sets(wish)))
        return [(house, wishes + [(first(), [(1,), (2,)]), (turning(line(), 2, {}), [])]) for house, wishes in found.values()]

    def check(self, desk, record):
        house, row, wishes = record.now()
        self.assertEqual([desk.house, desk.row, desk.names, list(desk)], [house, row, tuple(sorted(wishes)), sorted(wishes)])
        self.assertEqual({name: (desk[name], desk.guard(name)) for name in desk}, wishes)
        self.assertEqual(len(desk), len(row))

    def test_against_a_record(self):
        rng = Random(1)
        errors = {}
        for house, wishes in self.pools() * 15:
            desk, record = Desk(house), Record(house)
            for _ in range(40):
                if rng.random() < 0.25:
                    many = rng.randint(0, 3)
                    back = rng.random() < 0.6
                    left = record.place if back else len(record.stands) - 1 - record.place
                    if many > left:
                        call = desk.undo if back else desk.redo
                        self.assertEqual(self.caught(NothingToUndo, call, many=many).many, many)
                    else:
                        record.place += -many if back else many
                        self.assertEqual((desk.undo if back else desk.redo)(many=many), record.place)
                else:
                    name, given = self.drawn_call(rng, record.now()[0], wishes)
                    wanted = getattr(record, name)(*given)
                    self.assertEqual(self.call(desk, name, given), wanted, (name, given))
                    errors[name, wanted if wanted is None or isinstance(wanted, type) else wanted[0]] = True
                self.check(desk, record)
            self.assertEqual(moves(desk), (record.place, len(record.stands) - 1 - record.place))
        for name, wanted in (
            ("keep", {None, InvalidOperation, Unsteady, Refused}), ("forget", {None, UnknownName}), ("do", {None, UnknownName, Refused}),
            ("do_all", {None, InvalidRow, Refused}), ("merge", {None, UnknownName, InvalidOperation, Refused}),
            ("give", {None, UnknownName, InvalidOperation, Unsteady} - {UnknownName}),
        ):
            self.assertTrue(wanted <= {error for call, error in errors if call == name}, (name, errors))

    def test_the_row_is_always_let(self):
        rng = Random(2)
        for house, wishes in self.pools():
            desk = Desk(house)
            for _ in range(30):
                self.call(desk, *self.drawn_call(rng, desk.house, wishes))
                for name in desk:
                    self.assertIs(is_let(desk.house, desk[name], desk.row, desk.guard(name)), True)
                    # No deed is refused behind which its hands know that the wish is in the set.
                    wanted = tuple(
                        deed for deed in desk.house.deeds
                        if not is_refused(desk.house, desk[name], desk.row, deed, desk.guard(name))
                    )
                    self.assertEqual(desk.can_do(name), wanted)


class Asking(Case):
    def test_as_the_functions(self):
        rng = Random(3)
        for house, wish, lasting in falling()[::2]:
            desk = Desk(house)
            desk.keep("w", wish)
            for _ in range(3):
                desk.do_all(again.random_row(rng, house.deeds, 3))
                row = desk.row
                self.assertIs(desk.has("w"), row in wish)
                for hand in house.hands:
                    self.assertEqual(desk.own_row(hand), own_row(house, row, hand))
                for hands in again.subsets(house.hands)[::3]:
                    self.assertEqual(desk.view("w", hands), view(house, wish, row, hands))
                    self.assertEqual(desk.may_be("w", hands), may_be(house, wish, row, hands))
                    for states in lasting[:4] + [(0,)]:
                        self.assertIs(desk.does_know("w", hands, states), does_know(house, wish, row, hands, states))

    def test_known(self):
        desk = working()
        self.assertEqual([desk.view("calm", ("l",)), desk.may_be("calm", ("l",)), desk.has("even"), desk.has("calm")], [1, (1, 3), True, False])
        self.assertEqual([desk.can_do("calm"), desk.can_do("even")], [("a", "b"), ("a", "b", "m")])
        self.assertEqual([desk.own_row("l"), desk.own_row("r"), len(desk)], [("a",), ("b",), 2])
        self.assertEqual([desk["calm"], desk.guard("calm"), desk.guard("even")], [calm(), (3,), ()])
        self.assertEqual([desk.names, desk.row, desk.house], [("calm", "even"), ("a", "b"), duo()])

    def test_names(self):
        desk = working()
        for value, wanted in (("calm", True), ("even", True), ("a", False), ("l", False), ("Calm", False), ("", False)):
            self.assertIs(value in desk, wanted)
        for odd in odd_values():
            self.assertIs(odd in desk, False)
        self.assertEqual([list(desk), [name for name in desk], tuple(desk), sorted(desk)], [["calm", "even"]] * 2 + [("calm", "even"), ["calm", "even"]])
        self.assertEqual([list(Desk(duo())), len(Desk(duo())), Desk(duo()).names], [[], 0, ()])

    def test_names_ascend(self):
        desk = Desk(duo())
        for name in ("m", "z", "a", "ab", "b"):
            desk.keep(name, even())
        self.assertEqual([desk.names, list(desk)], [("a", "ab", "b", "m", "z"), ["a", "ab", "b", "m", "z"]])

    def test_forgetting_while_iterating(self):
        desk = working()
        for name in desk:
            desk.forget(name)
        self.assertEqual(list(desk), [])

    def test_texts(self):
        self.assertEqual([str(Desk(duo())), str(working())], ["desk of 2 hands, 0 deeds done", "desk of 2 hands, 2 deeds done"])
        self.assertEqual(str(Desk(House(("l",), {"a": ("l",)}))), "desk of 1 hands, 0 deeds done")
        self.assertEqual(repr(working()), repr(working()))

    def test_unknown_names(self):
        desk = working()
        for odd in odd_values() + ["once", "a", "l"]:
            self.unknown(odd, desk.forget, odd)
            self.unknown(odd, desk.has, odd)
            self.unknown(odd, desk.guard, odd)
            self.unknown(odd, desk.can_do, odd)
            self.unknown(odd, lambda: desk[odd])
            for more in (("l",), odd, None):
                self.unknown(odd, desk.view, odd, more)
                self.unknown(odd, desk.may_be, odd, more)
                self.unknown(odd, desk.does_know, odd, more, odd)
            if odd != "l":
                self.unknown(odd, desk.own_row, odd)
        self.assertEqual(told(desk), told(working()))

    def test_hands_and_states(self):
        desk = working()
        for odd in no_hands():
            self.caught(InvalidOperation, desk.view, "calm", odd)
            self.caught(InvalidOperation, desk.may_be, "calm", odd)
            self.caught(InvalidOperation, desk.does_know, "calm", odd, ())
        for odd in no_states(4):
            self.caught(InvalidOperation, desk.does_know, "calm", ("l",), odd)


class Equal(Case):
    def test_made_in_different_ways(self):
        desk = working()
        other = Desk(duo())
        other.do("a")
        other.keep("even", calm())
        other.do("b")
        other.keep("even", even())
        self.assertIs(desk == other, False)
        other.keep("calm", calm(), guarded=(3,))
        self.assertIs(desk == other, True)
        self.assertIs(desk != other, False)
        other.do_all(())
        other.keep("x", once())
        other.forget("x")
        self.assertIs(desk == other, True)
        other.undo()
        self.assertIs(desk != other, True)

    def test_what_differs(self):
        desk = working()
        for change in (
            lambda other: other.do("a"), lambda other: other.undo(), lambda other: other.forget("even"), lambda other: other.keep("x", even()),
            lambda other: other.keep("calm", calm()), lambda other: other.keep("even", once()), lambda other: other.keep("even", even(), guarded=(0, 1)),
        ):
            other = working()
            try:
                change(other)
            except Refused:
                other.undo()
            self.assertIs(desk == other, False)
            self.assertIs(desk != other, True)
        other = Desk(duo().with_deed("c", ("l",)))
        self.assertIs(Desk(duo()) == other, False)
        self.assertIs(Desk(duo()) == Desk(duo()), True)

    def test_the_order_of_deeds_counts(self):
        one, other = Desk(duo()), Desk(duo())
        one.do_all(("a", "b"))
        other.do_all(("b", "a"))
        self.assertIs(one == other, False)

    def test_other_values(self):
        for odd in odd_values():
            self.assertIs(working() == odd, False)
            self.assertIs(working() != odd, True)
        self.assertIs(working() == duo(), False)


class Undoing(Case):
    def test_of_each_call(self):
        desk = Desk(line())
        calls = [
            lambda: desk.keep("w", turning(line(), 2, {})), lambda: desk.do("a"), lambda: desk.do_all(("x", "y", "c")),
            lambda: desk.keep("w", turning(line(), 3, {})), lambda: desk.give("x", "p"), lambda: desk.merge("p", "r"),
            lambda: desk.do_all(()), lambda: desk.forget("w"),
        ]
        seen = [told(desk)]
        for many, call in enumerate(calls):
            self.assertIs(call(), None)
            seen.append(told(desk))
            self.assertEqual(moves(desk), (many + 1, 0))
        for many in range(len(calls), 0, -1):
            self.assertEqual(desk.undo(), many - 1)
            self.assertEqual(told(desk), seen[many - 1])
        for many in range(len(calls)):
            self.assertEqual(desk.redo(), many + 1)
            self.assertEqual(told(desk), seen[many + 1])
        self.assertEqual([desk.undo(many=5), desk.redo(many=0), desk.undo(many=0), desk.redo(many=4), desk.undo(many=7)], [3, 3, 3, 7, 0])

    def test_too_many(self):
        desk = working()
        for many in (4, 5, 100, 10 ** 59):
            self.assertEqual(self.caught(NothingToUndo, desk.undo, many=many).many, many)
        for many in (1, 2, 10 ** 60 - 1):
            self.assertEqual(self.caught(NothingToUndo, desk.redo, many=many).many, many)
        self.assertEqual(everything(desk), everything(working()))
        self.assertEqual([desk.undo(many=3), desk.redo(many=3)], [0, 3])
        self.assertEqual(self.caught(NothingToUndo, Desk(duo()).undo).many, 1)
        self.assertEqual([Desk(duo()).undo(many=0), Desk(duo()).redo(many=0)], [0, 0])

    def test_no_numbers(self):
        desk = working()
        desk.undo()
        for odd in [value for value in odd_values() if type(value) is not int or value < 0 or value >= 10 ** 60] + [-1, "1", (1,), [1]]:
            for call in (desk.undo, desk.redo):
                self.assertIs(self.caught(InvalidNumber, call, many=odd).value, odd)
        self.assertEqual(moves(desk), (2, 1))

    def test_new_calls_end_redoing(self):
        for call in (
            lambda desk: desk.do("a"), lambda desk: desk.do_all(()), lambda desk: desk.keep("x", even()), lambda desk: desk.forget("even"),
            lambda desk: desk.merge("r", "l"), lambda desk: desk.give("m", "l"),
        ):
            desk = Desk(duo())
            desk.keep("even", even())
            desk.do("a")
            desk.do("b")
            desk.undo(many=1)
            self.assertEqual(moves(desk), (2, 1))
            call(desk)
            self.assertEqual(moves(desk), (3, 0))
            self.caught(NothingToUndo, desk.redo)

    def test_refused_calls_do_not(self):
        desk = working()
        desk.undo()
        desk.do("a")
        desk.do("b")
        desk.undo()
        before = everything(desk)
        for error, call in refused(desk):
            self.caught(error, call)
            self.assertEqual(everything(desk), before)

    def test_a_hundred_calls(self):
        rng = Random(4)
        house = crowd()
        desk = Desk(house)
        for number, name in enumerate(NAMES):
            wish = grid(house, {"on": 1, "fi": 2, "th": 1}) if number % 2 else turning(house, 24, {})
            desk.keep(name, wish, guarded=(wish.after(("on", "fi", "fi", "th")),) if number % 2 else ())
        desk.do_all(again.random_row(rng, ("ac", "bc", "cd", "tw", "fo"), 400))
        for _ in range(100):
            desk.do(rng.choice(("ac", "on", "tw", "fo", "fi")))
        row = desk.row
        self.assertEqual(len(row), 500)
        self.assertEqual([desk.undo(many=100), len(desk), desk.redo(many=60), desk.row], [6, 400, 66, row[:460]])
        self.assertEqual([desk.undo(many=66), desk.redo(many=106), desk.row], [0, 106, row])
        self.assertEqual(desk.view("calm", house.hands), desk["calm"].after(row))


def refused(desk):
    """Calls that a desk like the one above refuses, with the error of each."""
    return [
        (Refused, lambda: desk.do("m") if desk.row == ("a", "b") else desk.merge("l", "r") if len(desk) > 1 else desk.do_all(("b", "m"))),
        (UnknownName, lambda: desk.do("z")), (InvalidRow, lambda: desk.do_all(("a", "z"))), (InvalidRow, lambda: desk.do_all(["a"])),
        (Refused, lambda: desk.do_all(("b", "b", "m", "z")[:3])), (UnknownName, lambda: desk.forget("x")),
        (InvalidName, lambda: desk.keep("X", even())), (InvalidWish, lambda: desk.keep("x", None)),
        (InvalidOperation, lambda: desk.keep("x", calm(), guarded=(0,))), (InvalidOperation, lambda: desk.keep("x", turning(line(), 2, {}))),
        (Unsteady, lambda: desk.keep("x", first())), (Refused, lambda: desk.keep("x", even(), guarded=(0, 1))),
        (UnknownName, lambda: desk.merge("z", "l")), (UnknownName, lambda: desk.merge("l", "z")), (InvalidOperation, lambda: desk.merge("l", "l")),
        (UnknownName, lambda: desk.give("z", "l")), (UnknownName, lambda: desk.give("m", "z")), (InvalidOperation, lambda: desk.give("a", "l")),
        (Unsteady, lambda: desk.give("m", "l")), (InvalidNumber, lambda: desk.undo(many=-1)), (NothingToUndo, lambda: desk.redo(many=9)),
    ]


class Blocks(Case):
    def play(self, desk):
        """Calls of all kinds, some of them undone."""
        desk.keep("x", once())
        desk.do("a")
        desk.forget("even")
        desk.undo(many=2)
        desk.redo()

    def test_trial(self):
        desk = working()
        desk.undo()
        before = everything(desk)
        with desk.trial() as same:
            self.assertIs(same, desk)
            self.play(same)
            self.assertNotEqual(told(desk), before[0])
        self.assertEqual(everything(desk), before)
        with desk.trial():
            desk.undo(many=2)
            self.assertEqual(desk.names, ())
        self.assertEqual(everything(desk), before)
        with desk.trial():
            desk.redo()
            desk.do("a")
        self.assertEqual(everything(desk), before)

    def test_during(self):
        desk = working()
        desk.undo()
        before = everything(desk)
        for call, wanted in (
            (lambda same: same is desk, True), (lambda same: (same.do("a"), same.row), (None, ("a",))), (lambda same: same.undo(), 1),
            (lambda same: same.redo(), 3), (lambda same: None, None), (self.play, None), (len, 0), (list, ["calm", "even"]),
        ):
            self.assertEqual(desk.during(call), wanted)
            self.assertEqual(everything(desk), before)
        self.assertIs(desk.during(lambda same: same), desk)

    def test_errors_go_on(self):
        desk = working()
        before = everything(desk)
        found = ValueError("mine")

        def fails(same):
            same.do("a")
            raise found

        with self.assertRaises(ValueError) as caught:
            desk.during(fails)
        self.assertIs(caught.exception, found)
        self.assertEqual(everything(desk), before)
        with self.assertRaises(ValueError) as caught:
            with desk.trial() as same:
                fails(same)
        self.assertIs(caught.exception, found)
        self.assertEqual(everything(desk), before)
        self.assertEqual(self.caught(Refused, desk.during, lambda same: (same.do("a"), same.do("m"))).name, "calm")
        self.assertEqual(everything(desk), before)
        self.assertEqual(self.caught(NothingToUndo, desk.during, lambda same: same.undo(many=4)).many, 4)
        self.assertEqual(everything(desk), before)

    def test_one_in_another(self):
        desk = working()
        before = everything(desk)
        with desk.trial():
            desk.do("a")
            within = everything(desk)
            with desk.trial() as same:
                same.undo(many=2)
                self.assertEqual(desk.during(lambda one: one.during(lambda two: (two.do("b"), two.row)[1])), ("b",))
                self.assertEqual(desk.row, ())
            self.assertEqual(everything(desk), within)
            with self.assertRaises(Refused):
                with desk.trial():
                    desk.do("b")
                    desk.do("m")
            self.assertEqual(everything(desk), within)
        self.assertEqual(everything(desk), before)

    def test_a_block_is_entered_later_and_again(self):
        desk = working()
        block = desk.trial()
        desk.do("a")
        before = everything(desk)
        for _ in range(2):
            with block:
                desk.do("b")
            self.assertEqual(everything(desk), before)

    def test_return_from_a_block(self):
        desk = working()

        def inside():
            with desk.trial() as same:
                same.do("a")
                return same.row

        self.assertEqual([inside(), desk.row], [("a", "b", "a"), ("a", "b")])

    def test_twins_within(self):
        desk = working()
        with desk.trial():
            desk.do("a")
            twin = desk.twin()
        self.assertEqual([twin.row, moves(twin), desk.row], [("a", "b", "a"), (4, 0), ("a", "b")])


class Twins(Case):
    def test_go_their_own_way(self):
        desk = working()
        desk.undo()
        twin = desk.twin()
        self.assertIsNot(twin, desk)
        self.assertIs(twin == desk, True)
        self.assertEqual(everything(twin), everything(desk))
        before = everything(desk)
        twin.do_all(("a", "a"))
        twin.forget("calm")
        self.assertEqual(everything(desk), before)
        after = everything(twin)
        desk.redo()
        desk.do("a")
        desk.undo(many=4)
        self.assertEqual(everything(twin), after)
        self.assertEqual([twin.undo(many=4), desk.redo(many=1)], [0, 1])

    def test_no_shared_state(self):
        deeds = {"a": ("l",), "b": ("r",), "m": ("l", "r")}
        house = House(("l", "r"), deeds)
        desk = Desk(house)
        deeds.clear()
        desk.keep("even", even())
        self.assertEqual([desk.house, house], [duo(), duo()])
        desk.give("m", "l")
        self.assertEqual([house["m"], desk.house["m"]], [("l", "r"), ("l",)])
        row, names = desk.row, desk.names
        desk.do("a")
        desk.keep("x", even())
        self.assertEqual([row, names], [(), ("even",)])


class Keeping(Case):
    def test_late_and_in_the_place_of_others(self):
        desk = working()
        desk.keep("even", once())
        self.assertEqual([desk["even"], desk.has("even"), len(desk.names)], [once(), False, 2])
        desk.keep("calm", calm())
        self.assertEqual(desk.guard("calm"), ())
        desk.do("m")
        self.assertEqual(self.caught(Refused, desk.keep, "calm", calm(), guarded=(3,)).name, "calm")
        self.assertEqual(desk.guard("calm"), ())
        desk.undo()
        desk.keep("calm", calm(), guarded=(3,))
        self.caught(Refused, desk.do, "m")

    def test_guards(self):
        desk = Desk(duo())
        for guarded in ((0, 1, 2, 3),):
            self.assertEqual(self.caught(Refused, desk.keep, "w", calm(), guarded=guarded).name, "w")
        for guarded in ((), (3,)):
            self.assertIs(desk.keep("w", calm(), guarded=guarded), None)
            self.assertEqual(desk.guard("w"), guarded)
        # Sets that last for another wish, and ones that are none at all.
        for odd in no_states(4) + [(0,), (1,), (0, 1, 2), (1, 3), (2, 3)]:
            self.caught(InvalidOperation, desk.keep, "w", calm(), guarded=odd)
        self.caught(InvalidOperation, desk.keep, "w", once(), guarded=(3,))
        self.caught(InvalidOperation, desk.keep, "w", even(), guarded=(1,))
        self.assertEqual([desk.guard("w"), moves(desk)], [(3,), (2, 0)])

    def test_errors_in_their_order(self):
        desk = working()
        for odd in odd_values_but(str) + ["", "X", "a b", "overlongx", "a" * 4000]:
            self.caught(InvalidName, desk.keep, odd, even())
            self.caught(InvalidName, desk.keep, odd, odd, guarded=odd)
            self.caught(InvalidName, desk.keep, odd, first(), guarded=(9,))
        for odd in odd_values_but(Wish):
            self.caught(InvalidWish, desk.keep, "x", odd)
            self.caught(InvalidWish, desk.keep, "x", odd, guarded=odd)
        for wish in (first(), turning(line(), 2, {})):
            for odd in no_states(len(wish)):
                self.caught(InvalidOperation, desk.keep, "x", wish, guarded=odd)
        self.caught(InvalidOperation, desk.keep, "x", turning(line(), 2, {}), guarded=(0, 1))
        found = self.caught(Unsteady, desk.keep, "x", first(), guarded=(0, 1, 2)).breach
        self.assertIs(is_breach(duo(), first(), found), True)
        self.assertEqual(self.caught(Refused, desk.keep, "x", even(), guarded=(0, 1)).name, "x")
        self.assertEqual(everything(desk), everything(working()))

    def test_a_row_that_leads_into_the_set_unknown_to_all(self):
        desk = Desk(duo())
        desk.do_all(("a", "b"))
        self.assertIs(desk.keep("calm", calm(), guarded=(3,)), None)
        desk.do("a")
        self.assertEqual(desk.can_do("calm"), ("a", "b"))
        self.assertEqual(desk.may_be("calm", ("l", "r")), (3,))


class Doing(Case):
    def test_the_first_name_that_refuses(self):
        desk = Desk(duo())
        for name in ("b", "a", "c"):
            desk.keep(name, once() if name == "a" else calm(), guarded=(2,) if name == "a" else (3,))
        desk.do_all(("a", "b"))
        self.assertEqual(self.caught(Refused, desk.do, "m").name, "a")
        self.assertEqual(self.caught(Refused, desk.do, "a").name, "a")
        desk.forget("a")
        self.assertEqual(self.caught(Refused, desk.do, "m").name, "b")
        desk.forget("b")
        self.assertEqual(self.caught(Refused, desk.do, "m").name, "c")

    def test_the_first_deed_that_is_refused(self):
        desk = Desk(duo())
        desk.keep("z", once(), guarded=(2,))
        desk.keep("calm", calm(), guarded=(3,))
        # z refuses the second a, calm the m behind it.
        self.assertEqual(self.caught(Refused, desk.do_all, ("a", "a", "b", "m")).name, "z")
        desk.forget("z")
        self.assertEqual(self.caught(Refused, desk.do_all, ("a", "a", "b", "m")).name, "calm")
        self.assertEqual([desk.row, moves(desk)], [(), (3, 0)])
        desk.do_all(("a", "a", "b"))
        self.assertEqual(desk.row, ("a", "a", "b"))

    def test_rows_of_hundreds_of_deeds(self):
        desk = working()
        desk.undo()
        row = ("a", "m", "b", "m") * 500
        desk.do_all(row)
        self.assertEqual([desk.row, desk.view("calm", ("l", "r"))], [row, 0])
        self.assertEqual(self.caught(Refused, desk.do_all, row + ("a", "b", "m")).name, "calm")
        desk.do_all(("a", "b"))
        self.assertEqual([len(desk), desk.can_do("calm")], [2002, ("a", "b")])

    def test_values_of_other_kinds(self):
        desk = working()
        for odd in odd_values() + ["l", "z", ("a",), ["a"]]:
            self.unknown(odd, desk.do, odd)
        for odd in odd_values() + ["a", ["a"], ("z",), ("a", ["b"]), ("l",), {}, []]:
            if odd != ():
                self.caught(InvalidRow, desk.do_all, odd)
        self.assertEqual(everything(desk), everything(working()))


class Houses(Case):
    def test_merge(self):
        desk = Desk(line())
        desk.keep("w", turning(line(), 3, {}))
        desk.do_all(("a", "x", "c"))
        desk.merge("p", "r")
        self.assertEqual([desk.house, desk.row, desk.own_row("p")], [line().as_one("p", "r"), ("a", "x", "c"), ("a", "x", "c")])
        desk.merge("q", "p")
        self.assertEqual([desk.house.hands, desk.own_row("q")], [("q",), ("a", "x", "c")])

    def test_merge_is_refused(self):
        # The two hands together would have known what they did.
        desk = working()
        for one, other in (("l", "r"), ("r", "l")):
            self.assertEqual(self.caught(Refused, desk.merge, one, other).name, "calm")
        desk.keep("a", calm(), guarded=(3,))
        self.assertEqual(self.caught(Refused, desk.merge, "l", "r").name, "a")
        desk.undo(many=2)
        desk.do_all(("a", "a"))
        desk.merge("l", "r")
        self.assertEqual(desk.house.hands, ("l",))
        self.assertEqual(self.caught(Refused, desk.do, "b").name, "calm")

    def test_give(self):
        desk = Desk(duo())
        desk.keep("even", even(), guarded=())
        desk.give("m", "r")
        self.assertEqual([desk.house, desk.house.apart], [duo().given("m", "r"), (("a", "b"), ("a", "m"))])
        self.caught(InvalidOperation, desk.give, "m", "r")
        desk.undo()
        desk.keep("once", once())
        found = self.caught(Unsteady, desk.give, "m", "l").breach
        self.assertIs(is_breach(duo().given("m", "l"), once(), found), True)
        self.assertEqual(desk.house, duo())

    def test_errors_in_their_order(self):
        desk = working()
        for odd in odd_values() + ["a", "z", ("l",)]:
            self.unknown(odd, desk.merge, odd, "l")
            self.unknown(odd, desk.merge, odd, odd)
            self.unknown(odd, desk.merge, "l", odd)
            if odd != "a":
                self.unknown(odd, desk.give, odd, "l")
                self.unknown(odd, desk.give, odd, odd)
            self.unknown(odd, desk.give, "m", odd)
        self.caught(InvalidOperation, desk.merge, "r", "r")
        for deed, hand in (("a", "l"), ("a", "r"), ("b", "l")):
            self.caught(InvalidOperation, desk.give, deed, hand)
        ring = Desk(snake())
        self.caught(InvalidHouse, ring.merge, "b", "d")
        self.caught(InvalidHouse, ring.merge, "d", "c")
        # A ring ahead of what is refused, and what is not steady ahead of what is not let.
        ring.keep("w", grid(snake(), {"bc": 1, "de": 1}), guarded=(3,))
        ring.do_all(("bc", "de"))
        self.caught(InvalidHouse, ring.merge, "b", "d")
        self.assertEqual(self.caught(Refused, ring.merge, "c", "e").name, "w")
        self.assertEqual(everything(desk), everything(working()))

    def test_not_steady_ahead_of_not_let(self):
        # By a merged hand more is refused, by a given deed some wish may not be steady: no call does both.
        for house, wish, lasting in falling()[::3]:
            for states in lasting[:4]:
                desk = Desk(house)
                try:
                    desk.keep("w", wish, guarded=states)
                except Refused:
                    continue
                for one, other in house.links:
                    try:
                        desk.merge(one, other)
                        desk.undo()
                    except Unsteady:
                        self.fail("hands that are made one make no steady wish unsteady")
                for deed in house.deeds:
                    for hand in house[deed]:
                        try:
                            desk.give(deed, hand)
                            desk.undo()
                        except (Unsteady, InvalidOperation):
                            pass
                self.assertEqual([desk.house, desk.names], [house, ("w",)])

    def test_rows_stay_let_when_deeds_are_given(self):
        desk = Desk(duo())
        desk.keep("even", Wish(("a", "b", "m"), ((0, 0, 1), (1, 1, 1)), (0,)), guarded=(1,))
        desk.do_all(("a", "b"))
        desk.give("m", "l")
        self.assertEqual([desk.can_do("even"), self.caught(Refused, desk.do, "m").name], [("a", "b"), "even"])

    def test_house_of_a_desk(self):
        for odd in odd_values_but(House):
            self.caught(InvalidHouse, Desk, odd)
        self.assertEqual(Desk(groves()).house, groves())

    def test_wishes_with_many_outlooks(self):
        # A desk asks nothing that goes through all outlooks.
        house = House(("k", "l", "n"), {"a": ("k",), "b": ("l",), "c": ("n",)})
        desk = Desk(house)
        wish = turning(house, 24, {})
        desk.keep("w", wish, guarded=())
        try:
            desk.do_all(("a", "b", "c") * 200)
            desk.merge("k", "n")
        except TooMany:
            self.fail("nothing is too many for a desk")
        self.assertEqual([len(desk), desk.can_do("w")], [600, ("a", "b", "c")])


class Kinds(Case):
    def test_nothing_else_is_iterated_over(self):
        desk = working()
        self.not_iterated_over(desk.trial())
        self.assertEqual(nested(lambda part: part, list(desk), 3), ["calm", "even"])

    def test_calls_return_none(self):
        desk = Desk(duo())
        answers = [
            desk.keep("w", even()), desk.do("a"), desk.do_all(("b", "m")), desk.give("m", "l"), desk.merge("l", "r"), desk.forget("w"),
        ]
        self.assertEqual(answers, [None] * 6)

    def test_equal_calls_on_equal_states(self):
        for _ in range(2):
            self.assertEqual(everything(working()), everything(working()))

    def test_guarded_is_a_keyword(self):
        self.caught(TypeError, working().keep, "x", even(), ())
        self.caught(TypeError, working().undo, 1)
        self.caught(TypeError, working().redo, 1)
