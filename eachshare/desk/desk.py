"""A house at work: the deeds that are done, and several wishes of which some are guarded."""

from eachshare.base.checks import check_house, check_known, check_row
from eachshare.base.names import is_integer, is_name
from eachshare.base.rows import own_row
from eachshare.errors import InvalidName, InvalidNumber, NothingToUndo, Refused, UnknownName
from eachshare.know.checks import check_lasting
from eachshare.know.knowing import does_know, may_be, view
from eachshare.know.refusing import first_refused, lets, refuses
from eachshare.share.checks import check_wish
from eachshare.share.steady import check_steady


class Stand:
    """What a desk has at one time. It never changes."""

    def __init__(self, home, done, kept_wishes):
        self.home = home
        self.done = done
        # A wish and its guarded set, by ascending names.
        self.kept_wishes = {name: kept_wishes[name] for name in sorted(kept_wishes)}
        self.words = tuple(self.kept_wishes)


class Trial:
    """A block at whose end a desk is as it was."""

    def __init__(self, desk):
        self._desk = desk
        self._behind = ()
        self._now = None
        self._ahead = ()

    def __enter__(self):
        desk = self._desk
        self._behind = desk._behind
        self._now = desk._now
        self._ahead = desk._ahead
        return desk

    def __exit__(self, kind, value, trace):
        desk = self._desk
        desk._behind = self._behind
        desk._now = self._now
        desk._ahead = self._ahead


class Desk:
    """A house, a row of deeds that are done, and steady wishes under names, each perhaps guarded by a lasting set."""

    def __init__(self, house):
        check_house(house)
        # What can be taken back stands behind what is now, and what can be done again stands ahead of it.
        self._behind = ()
        self._now = Stand(house, (), {})
        self._ahead = ()

    @property
    def house(self):
        """The house."""
        return self._now.home

    @property
    def row(self):
        """The row of the deeds that are done."""
        return self._now.done

    @property
    def names(self):
        """The set of the names of the wishes."""
        return self._now.words

    def __getitem__(self, name):
        self._check_name(name)
        return self._now.kept_wishes[name][0]

    def __iter__(self):
        return iter(self._now.words)

    def __contains__(self, value):
        return is_name(value) and value in self._now.kept_wishes

    def __len__(self):
        return len(self._now.done)

    def __eq__(self, other):
        if not isinstance(other, Desk):
            return False
        if self._now.home != other._now.home or self._now.done != other._now.done:
            return False
        return self._now.kept_wishes == other._now.kept_wishes

    def __str__(self):
        return f"desk of {len(self._now.home)} hands, {len(self._now.done)} deeds done"

    def __repr__(self):
        # The text of an error shows what it keeps, and equal desks should show alike.
        return f"Desk({self._now.home!r}, {self._now.done!r}, {self._now.kept_wishes!r})"

    def guard(self, name):
        """The guarded set of a wish."""
        self._check_name(name)
        return self._now.kept_wishes[name][1]

    def keep(self, name, wish, *, guarded=()):
        """Keep a wish under a name, in the place of the one that is there."""
        if not is_name(name):
            raise InvalidName("a wish has a name of one to eight letters a to z")
        check_wish(wish)
        check_lasting(wish, guarded)
        check_steady(self._now.home, wish)
        if not lets(self._now.home, wish, self._now.done, guarded):
            raise Refused(name)
        self._go_on(self._now.home, self._now.done, {**self._now.kept_wishes, name: (wish, guarded)})

    def forget(self, name):
        """Keep the wish with this name no longer."""
        self._check_name(name)
        wishes = self._now.kept_wishes
        self._go_on(self._now.home, self._now.done, {each: wishes[each] for each in wishes if each != name})

    def do(self, deed):
        """Do a deed."""
        check_known(deed, self._now.home.deeds)
        for name in self._now.words:
            if self._is_refused(name, deed):
                raise Refused(name)
        self._go_on(self._now.home, self._now.done + (deed,), self._now.kept_wishes)

    def do_all(self, row):
        """Do all deeds of a row, or none."""
        home = self._now.home
        check_row(row, home.deeds)
        done = self._now.done + row
        found = []
        for name, (wish, guarded) in self._now.kept_wishes.items():
            place = first_refused(home, wish, done, guarded)
            if place is not None:
                found.append((place, name))
        if found:
            raise Refused(min(found)[1])
        self._go_on(home, done, self._now.kept_wishes)

    def merge(self, one, other):
        """Make two hands one."""
        self._move_to(self._now.home.as_one(one, other))

    def give(self, deed, hand):
        """Give a deed of two hands to one of them."""
        self._move_to(self._now.home.given(deed, hand))

    def has(self, name):
        """Whether the row is in a wish."""
        return self._now.done in self[name]

    def view(self, name, hands):
        """The view of a set of hands."""
        return view(self._now.home, self[name], self._now.done, hands)

    def may_be(self, name, hands):
        """The set of the states in which a wish may be, as far as some hands know."""
        return may_be(self._now.home, self[name], self._now.done, hands)

    def does_know(self, name, hands, states):
        """Whether some hands know that a wish is in a set of states."""
        return does_know(self._now.home, self[name], self._now.done, hands, states)

    def can_do(self, name):
        """The set of the deeds that the guarded set of a wish does not refuse."""
        self._check_name(name)
        return tuple([deed for deed in self._now.home.deeds if not self._is_refused(name, deed)])

    def own_row(self, hand):
        """The own row of a hand."""
        return own_row(self._now.home, self._now.done, hand)

    def undo(self, *, many=1):
        """Take back so many calls, and return how many can be taken back then."""
        _check_many(many, len(self._behind))
        return self._go_to(len(self._behind) - many)

    def redo(self, *, many=1):
        """Do so many calls again, and return how many can be taken back then."""
        _check_many(many, len(self._ahead))
        return self._go_to(len(self._behind) + many)

    def trial(self):
        """A block at whose end the desk is as it was."""
        return Trial(self)

    def during(self, call):
        """What a call with the desk returns, behind which the desk is as it was."""
        with self.trial() as same:
            return call(same)

    def twin(self):
        """An independent copy."""
        found = Desk(self._now.home)
        found._behind = self._behind
        found._now = self._now
        found._ahead = self._ahead
        return found

    def _check_name(self, name):
        if name not in self:
            raise UnknownName(name)

    def _is_refused(self, name, deed):
        """Whether the guarded set of a wish refuses a deed."""
        wish, guarded = self._now.kept_wishes[name]
        return refuses(self._now.home, wish, self._now.done, deed, guarded)

    def _move_to(self, home):
        """Replace the house, if all wishes are steady for the other one and the row is let there."""
        wishes = self._now.kept_wishes
        for wish, guarded in wishes.values():
            check_steady(home, wish)
        for name, (wish, guarded) in wishes.items():
            if not lets(home, wish, self._now.done, guarded):
                raise Refused(name)
        self._go_on(home, self._now.done, wishes)

    def _go_on(self, home, done, wishes):
        """Have all this from now on, by a call that can be taken back."""
        self._behind = self._behind + (self._now,)
        self._now = Stand(home, done, wishes)
        self._ahead = ()

    def _go_to(self, many):
        """Have what was or will be when so many calls can be taken back."""
        stands = self._behind + (self._now,) + self._ahead
        self._behind = stands[:many]
        self._now = stands[many]
        self._ahead = stands[many + 1:]
        return many


def _check_many(value, most):
    """Raise the error of a number of calls to take back, or to do again, if there are only so many."""
    if not is_integer(value) or value < 0:
        raise InvalidNumber(value)
    if value > most:
        raise NothingToUndo(value)
