"""Stage 4: wishes that are made of wishes, and the rows that a wish has."""

from itertools import permutations
from random import Random

from eachshare.errors import InvalidOperation
from eachshare.wish import wishes as module
from eachshare.wish.wishes import Wish
from tests import again
from tests.samples import Case, calm, duo, even, first, no_numbers, odd_share, odd_values, odd_values_but, once

AB = ("a", "b")
ABM = ("a", "b", "m")
EIGHT = ("a", "b", "c", "d", "e", "f", "g", "h")
# Their turned rows need 24 states and 25, just as the document allows and one more.
TURNED_24 = Wish(AB, ((0, 1), (2, 3), (1, 0), (3, 4), (4, 0)), (2, 3, 4))
TURNED_25 = Wish(AB, ((1, 1), (2, 0), (3, 3), (4, 2), (1, 3)), (0, 1, 2))


def parts(wish):
    return wish.deeds, wish.targets, wish.kept


def pool(seed, many, most=4, deeds=AB):
    rng = Random(seed)
    return [Wish(*again.random_machine(rng, deeds, most)) for _ in range(many)]


def counter(at, size, deeds=AB):
    """The rows in which a deed stands a multiple of so many times."""
    targets = tuple(tuple((state + (place == at)) % size for place in range(len(deeds))) for state in range(size))
    return Wish(deeds, targets, (0,))


def line_of(many, wished=(0,)):
    """A wish with so many states in a line, of one deed."""
    return Wish(("a",), tuple((min(state + 1, many - 1),) for state in range(many)), wished)


def side_by_side(one, other, keep):
    """The wish of two wishes' machines side by side, with the pairs of states that are to be kept."""
    width = len(other)
    targets = tuple(
        tuple(end * width + mate for end, mate in zip(ends, mates)) for ends in one.targets for mates in other.targets
    )
    pairs = [(state in one.kept, mate in other.kept) for state in range(len(one)) for mate in range(width)]
    return Wish(one.deeds, targets, tuple(at for at, pair in enumerate(pairs) if keep(*pair)))


OPERATORS = (
    (lambda one, other: one & other, lambda has, other: has and other),
    (lambda one, other: one | other, lambda has, other: has or other),
    (lambda one, other: one - other, lambda has, other: has and not other),
)


class Operators(Case):
    def test_every_pair(self):
        wishes = pool(1, 24)
        rows = again.all_rows(AB, 5)
        has = [[row in wish for row in rows] for wish in wishes]
        for call, keep in OPERATORS:
            for one, had in zip(wishes, has):
                for other, too in zip(wishes, has):
                    found = call(one, other)
                    self.assertEqual([row in found for row in rows], [keep(*pair) for pair in zip(had, too)])
                    self.assertEqual(parts(found), parts(side_by_side(one, other, keep)))

    def test_other_rows(self):
        for wish in pool(2, 100) + [even(), once(), calm(), first(), counter(0, 24)]:
            rows = again.all_rows(wish.deeds, 4)
            self.assertEqual([row in ~wish for row in rows], [row not in wish for row in rows])
            self.assertEqual((~wish).targets, wish.targets)
            self.assertEqual(parts(~~wish), parts(wish))

    def test_laws(self):
        for one, other in zip(pool(3, 60), pool(4, 60)):
            self.assertEqual(one | other, ~(~one & ~other))
            self.assertEqual(one - other, one & ~other)
            self.assertEqual(one & other, other & one)
            self.assertFalse(one - one)
            self.assertEqual(one | ~one, Wish(AB, ((0, 0),), (0,)))

    def test_too_many(self):
        for call, _ in OPERATORS:
            for most, more in (((4, 6), (5, 5)), ((3, 8), (2, 13)), ((6, 4), (24, 24)), ((12, 2), (7, 4))):
                self.assertEqual(len(call(counter(0, most[0]), counter(1, most[1]))), 24)
                self.too_many(24, call, counter(0, more[0]), counter(1, more[1]))

    def test_many_pairs_but_few_states(self):
        one, other = counter(0, 24), counter(0, 12)
        self.assertEqual([one & other, one | other, one - other], [one, other, Wish(AB, ((0, 0),), ())])
        self.too_many(24, lambda: counter(0, 5, EIGHT) & counter(7, 5, EIGHT))
        self.too_many(24, lambda: counter(0, 24, EIGHT) | counter(7, 23, EIGHT))

    def test_another_operand(self):
        others = odd_values() + [(), {}, [], set(), Wish(AB, ((0, 0),), ()), Wish(("a", "b", "n"), ((0, 0, 0),), ())]
        for call, _ in OPERATORS:
            for odd in [odd for odd in others if not (isinstance(odd, Wish) and odd.deeds == ABM)]:
                self.caught(InvalidOperation, call, even(), odd)
                self.caught(InvalidOperation, call, odd, even())

    def test_another_operand_ahead_of_too_many(self):
        for call, _ in OPERATORS:
            self.caught(InvalidOperation, call, counter(0, 24), counter(0, 24, ABM))
            self.caught(InvalidOperation, call, counter(0, 24), odd_share())

    def test_operands_stay(self):
        one, other = even(), once()
        before = parts(one), parts(other)
        made = [one & other, one | other, one - other, ~one, one.turned(), one.renamed({"a": "c"})]
        one &= other
        self.assertEqual((parts(even()), parts(other)), before)
        self.assertEqual(one, made[0])


class Turned(Case):
    def test_rows_from_their_ends(self):
        for wish in pool(5, 150) + [even(), once(), calm(), first()]:
            turned = wish.turned()
            for row in again.all_rows(wish.deeds, 5 if len(wish.deeds) < 3 else 4):
                self.assertIs(row in turned, row[::-1] in wish)
            self.assertEqual(parts(Wish(*parts(turned))), parts(turned))
            if len(turned) < 7:
                self.assertEqual(len(turned), again.sorts_of_states(parts(turned)))
                self.assertEqual(again.states_as_met(turned, 6), list(range(len(turned))))
            self.assertEqual(parts(turned.turned()), parts(wish))

    def test_too_many(self):
        self.assertEqual([len(TURNED_24), len(TURNED_25)], [5, 5])
        self.assertEqual(len(TURNED_24.turned()), 24)
        self.assertEqual(TURNED_24.turned().turned(), TURNED_24)
        self.too_many(24, TURNED_25.turned)
        self.too_many(24, (~TURNED_25).turned)
        for many in range(1, 9):
            # The deed with this number is a; from the end on, the last so many deeds must be known.
            targets = [(at + 1, at + 1) for at in range(many - 1)] + [(many, many + 1), (many, many), (many + 1, many + 1)]
            wish = Wish(AB, tuple(targets), (many,))
            if many <= 4:
                self.assertEqual(len(wish.turned()), 2 ** many)
            else:
                self.too_many(24, wish.turned)

    def test_twenty_four_states(self):
        self.assertEqual(counter(0, 24).turned(), counter(0, 24))
        self.assertEqual(line_of(24, (23,)).turned(), line_of(24, (23,)))
        targets = tuple(tuple((state * at + 1) % 24 for at in range(8)) for state in range(24))
        self.too_many(24, Wish(EIGHT, targets, (3, 5, 11)).turned)


class Renamed(Case):
    def there_and_back(self, wish, names):
        made = wish.renamed(names)
        told = {deed: names.get(deed, deed) for deed in wish.deeds}
        self.assertEqual(made.deeds, tuple(sorted(told.values())))
        for row in again.all_rows(wish.deeds, 3):
            self.assertIs(tuple(told[deed] for deed in row) in made, row in wish)
        self.assertEqual(again.states_as_met(made, 4), list(range(len(wish))))
        self.assertEqual(parts(made.renamed({new: old for old, new in told.items()})), parts(wish))

    def test_all_deeds(self):
        for wish in [even(), once(), calm(), first()] + pool(6, 20, 4, ABM):
            for names in list(permutations(ABM)) + [("z", "y", "x"), ("b", "a", "l"), ("z", "a", "b")]:
                self.there_and_back(wish, dict(zip(ABM, names)))

    def test_some_deeds(self):
        for wish in (even(), once(), calm(), first()):
            for names in ({}, {"a": "z"}, {"m": "aa"}, {"b": "b"}, {"a": "m", "m": "a"}, {"b": "overlong"}):
                self.there_and_back(wish, names)
        self.assertEqual(parts(even().renamed({})), parts(even()))

    def test_states_are_numbered_anew(self):
        self.assertEqual(first().renamed({"a": "c"}).targets, ((1, 2, 0), (1, 1, 1), (2, 2, 2)))
        self.assertEqual(first().renamed({"a": "c"}).kept, (0, 2))

    def test_two_with_one_name(self):
        for names in ({"a": "b"}, {"a": "z", "b": "z"}, {"a": "b", "b": "m"}, {"m": "a", "a": "a"}):
            self.caught(InvalidOperation, even().renamed, names)
        self.assertEqual(even().renamed({"a": "b", "b": "c"}).deeds, ("b", "c", "m"))

    def test_no_names(self):
        for odd in odd_values() + [(), "a", ("a", "z"), (("a", "z"),), ["a"], []]:
            self.caught(InvalidOperation, even().renamed, odd)
        for key in ("z", "", "A", True, 0, None, (), ("a",), "a" * 9):
            self.caught(InvalidOperation, even().renamed, {key: "s"})
            self.caught(InvalidOperation, even().renamed, {"a": "t", key: "s"})
        for odd in odd_values() + ["overlongx", (), {}, ("z",)]:
            self.caught(InvalidOperation, even().renamed, {"a": odd})
            self.caught(InvalidOperation, even().renamed, {"a": "z", "b": odd})

    def test_order_of_the_dict(self):
        names = {"m": "c", "a": "d"}
        self.assertEqual(parts(even().renamed(names)), parts(even().renamed({"a": "d", "m": "c"})))
        self.assertEqual(list(names.items()), [("m", "c"), ("a", "d")])


def powers(wish, size):
    """The number of rows with so many deeds, by doubling: for each two states, the rows from one to the other."""
    states = range(len(wish))

    def times(one, other):
        return [[sum(one[a][b] * other[b][c] for b in states) for c in states] for a in states]

    step = [[ends.count(target) for target in states] for ends in wish.targets]
    whole = [[int(a == b) for b in states] for a in states]
    while size:
        if size % 2:
            whole = times(whole, step)
        step, size = times(step, step), size // 2
    return sum(whole[0][state] for state in wish.kept)


class Counting(Case):
    def test_short_rows(self):
        for wish in pool(7, 60) + [even(), once(), calm(), first(), *pool(8, 20, 5, ABM)]:
            for size in range(7):
                wanted = [row for row in again.all_rows(wish.deeds, size) if len(row) == size and row in wish]
                self.assertEqual(wish.count(size), len(wanted))
                self.assertEqual(wish.rows(size), tuple(wanted))

    def test_up_to_400(self):
        for wish in [even(), once(), TURNED_24.turned(), *pool(9, 6)]:
            for size in (7, 20, 64, 127, 255, 399, 400):
                self.assertEqual(wish.count(size), powers(wish, size))
        self.assertEqual(Wish(EIGHT, ((0,) * 8,), (0,)).count(400), 8 ** 400)
        self.assertEqual(counter(0, 24).count(0), 1)
        self.assertEqual(Wish(EIGHT, ((0,) * 8,), ()).count(400), 0)

    def test_size_of_count(self):
        for odd in no_numbers(401):
            self.wrong_number(odd, even().count, odd)
        self.assertEqual([line_of(24, (23,)).count(size) for size in (22, 23, 400)], [0, 1, 1])

    def test_size_of_rows(self):
        for odd in no_numbers(7):
            self.wrong_number(odd, even().rows, odd)
            self.wrong_number(odd, Wish(EIGHT, ((0,) * 8,), (0,)).rows, odd)

    def test_too_many_rows(self):
        self.assertEqual(module.MAX_ROWS, 20000)
        every = Wish(EIGHT, ((0,) * 8,), (0,))
        self.assertEqual(len(every.rows(4)), 4096)
        self.too_many(20000, every.rows, 5)
        self.too_many(20000, every.rows, 6)
        # Of these rows of six deeds there are 4 * 8 * 5 * 5 * 5 * 5.
        choices = (4, 8, 5, 5, 5, 5)
        targets = [tuple(at + 1 if place < many else 7 for place in range(8)) for at, many in enumerate(choices)]
        wish = Wish(EIGHT, tuple(targets) + ((7,) * 8, (7,) * 8), (6,))
        self.assertEqual((wish.count(6), len(set(wish.rows(6)))), (20000, 20000))
        self.assertEqual(list(wish.rows(6)), sorted(wish.rows(6)))
        more = wish | Wish.of_rows(EIGHT, (("h",) * 6,))
        self.assertEqual(more.count(6), 20001)
        self.too_many(20000, more.rows, 6)
        self.assertEqual((~more).count(6), 8 ** 6 - 20001)

    def test_kinds_of_values(self):
        self.assertEqual({type(row) for row in even().rows(4)} | {type(even().rows(4))}, {tuple})
        self.assertEqual([type(even().count(size)) for size in (0, 9)], [int, int])


class Shortest(Case):
    def test_first_of_the_shortest(self):
        for wish in pool(10, 150) + pool(11, 30, 4, ABM) + [even(), once(), calm(), first()]:
            wanted = again.kept_rows(parts(wish), 3)
            self.assertEqual(wish.shortest(), wanted[0] if wanted else None)

    def test_long(self):
        for many in range(1, 25):
            self.assertEqual(line_of(many, (many - 1,)).shortest(), ("a",) * (many - 1))
        self.assertEqual(Wish(EIGHT, ((0,) * 8,), ()).shortest(), None)
        self.assertEqual(Wish(AB, ((1, 1), (2, 2), (3, 0), (3, 3)), (3,)).shortest(), ("a",) * 3)

    def test_parting(self):
        wishes = pool(12, 30, 3)
        rows = again.all_rows(AB, 4)
        for one in wishes:
            for other in wishes:
                wanted = [row for row in rows if (row in one) != (row in other)]
                self.assertEqual(one.parting(other), wanted[0] if wanted else None)
                self.assertEqual(other.parting(one), one.parting(other))
                self.assertIs(one.parting(other) is None, one == other)

    def test_long_parting(self):
        for many in range(2, 25):
            self.assertEqual(line_of(many, (many - 1,)).parting(line_of(many - 1, ())), ("a",) * (many - 1))
            self.assertEqual(counter(1, many).parting(counter(1, many - 1)), ("b",) * (many - 1))
            self.assertEqual(counter(1, many).parting(counter(1, many)), None)
        one, other = (Wish(("a",), tuple(((at + 1) % size,) for at in range(size)), (22,)) for size in (24, 23))
        self.assertEqual(one.parting(other), ("a",) * 45)
        self.assertEqual(counter(0, 24, EIGHT).parting(counter(7, 24, EIGHT)), ("a",))

    def test_parting_without_a_limit(self):
        self.too_many(24, lambda: counter(0, 24) - counter(1, 23))
        self.assertEqual(counter(0, 24).parting(counter(1, 23)), ("a",))

    def test_no_other_wish(self):
        for odd in odd_values_but(Wish) + [(), {}, Wish(AB, ((0, 0),), ()), first().renamed({"a": "c"}), duo()]:
            self.caught(InvalidOperation, even().parting, odd)
