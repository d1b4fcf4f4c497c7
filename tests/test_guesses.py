"""The least machine of wishes for which a row can lead to several places at once, against all sets of places."""

from random import Random
from unittest.mock import patch

from eachshare.errors import TooMany
from eachshare.put import guesses as module
from eachshare.put.guesses import least_of
from eachshare.wish.machines import least_machine
from tests.samples import Case


class Drawn:
    """Places between which deeds lead as they are drawn."""

    def __init__(self, rng, many, deeds, most):
        places = range(many)
        self.many = many
        self.table = {(place, deed): rng.sample(places, rng.randint(0, min(most, many))) for place in places for deed in deeds}
        self.kept = [place for place in places if rng.random() < 0.3]

    def ends(self, place, deed):
        return self.table[place, deed]

    def keeps(self, place):
        return place in self.kept


def by_sets(guide, starts, deeds):
    """The least machine by all sets of places that come up; None for more than 24 states."""
    sets, targets = [frozenset(starts)], []
    numbers = {sets[0]: 0}
    for places in sets:
        row = []
        for deed in deeds:
            end = frozenset(other for place in places for other in guide.ends(place, deed))
            if end not in numbers:
                numbers[end] = len(sets)
                sets.append(end)
            row.append(numbers[end])
        targets.append(tuple(row))
    kept = [number for number, places in enumerate(sets) if any(guide.keeps(place) for place in places)]
    try:
        return least_machine(targets, kept, 24)
    except TooMany:
        return None


class Guesses(Case):
    def check(self, rng, most):
        """The machines that are found, for drawn places, so many of them as a rule lead to many sets."""
        sizes = []
        for _ in range(150):
            deeds = tuple("abc"[:rng.randint(1, 3)])
            guide = Drawn(rng, rng.randint(1, 9), deeds, most)
            starts = sorted(rng.sample(range(guide.many), rng.randint(0, guide.many)))
            wanted = by_sets(guide, starts, deeds)
            if wanted is None:
                self.too_many(24, least_of, guide, starts, deeds, 24)
            else:
                targets, kept = least_of(guide, starts, deeds, 24)
                self.assertEqual(least_machine(targets, kept, 24), wanted)
                self.assertEqual(len(targets), len(wanted[0]))
            sizes.append(25 if wanted is None else len(wanted[0]))
        return sizes

    def test_against_all_sets(self):
        rng = Random(1)
        sizes = [size for most in (1, 2, 3, 4) for size in self.check(rng, most)]
        self.assertTrue({1, 2, 3, 5, 8, 12, 25} <= set(sizes), sorted(set(sizes)))

    def test_with_few_sets_assumed(self):
        # Then small parts of sets are assumed for these machines, too, and dropped again.
        rng = Random(2)
        for few in (1, 5, 20):
            with patch.object(module, "FIRST_ASSUMED", few):
                for most in (2, 3):
                    self.check(rng, most)

    def test_limits(self):
        rng = Random(3)
        for _ in range(60):
            guide = Drawn(rng, 6, ("a", "b"), 2)
            wanted = by_sets(guide, [0], ("a", "b"))
            if wanted is not None and len(wanted[0]) > 1:
                many = len(wanted[0])
                self.assertEqual(len(least_of(guide, [0], ("a", "b"), many)[0]), many)
                self.too_many(many - 1, least_of, guide, [0], ("a", "b"), many - 1)
