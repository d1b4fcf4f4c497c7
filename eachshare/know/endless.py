"""Endless rows: what a hand sees again and again, and whether it comes to its goal whatever the hands do."""

from eachshare.base.checks import check_house, check_known, check_row, has_parts, is_row
from eachshare.base.names import is_integer
from eachshare.errors import InvalidRow
from eachshare.know.checks import check_states
from eachshare.share.checks import check_wish
from eachshare.share.joins import Scheme, are_pairs
from eachshare.share.steady import check_steady
from eachshare.wish.machines import way_to


class Paths:
    """The deeds that lead from outlook to outlook, without those of a hand behind which its view is in its goal.

    Outlooks are told by their numbers, in the order in which they are met. A deed of the hand is an act here.
    """

    def __init__(self, house, wish, hand, goal):
        scheme = Scheme(house, wish)
        own = house.deeds_of(hand)
        self._found = scheme.outlooks()
        self._numbers = {pairs: number for number, pairs in enumerate(self._found)}
        self._steps = []
        for pairs, number in self._numbers.items():
            for deed in house.deeds:
                end = scheme.moved(pairs, deed)
                if deed not in own or _view(house, end, hand) not in goal:
                    self._steps.append((number, deed, self._numbers[end], deed in own))

    def ranked(self):
        """How many acts can follow each outlook at the most, and the ways on of those that endlessly many can follow.

        The second dict leads from the numbers of these outlooks to pairs (deed, number) that lead from act to act.
        """
        ranks = {number: 0 for number in self._numbers.values()}
        ways_on = self._ways_to_acts(ranks)
        left = dict(ranks)
        while ways_on and len(ways_on) < len(left):
            for number in ways_on:
                ranks[number] += 1
            left = ways_on
            ways_on = self._ways_to_acts(left)
        return ranks, ways_on

    def sorted_ranks(self, ranks):
        """The dict from all outlooks, ascending, to their ranks."""
        return {pairs: ranks[self._numbers[pairs]] for pairs in sorted(self._numbers)}

    def has_ranks(self, ranks):
        """Whether the dict from all outlooks to integers falls at each act, and rises at none of the other deeds."""
        told = [ranks[pairs] for pairs in self._numbers]
        return all([told[number] >= told[end] + int(acts) for number, deed, end, acts in self._steps])

    def are_keys(self, values):
        """Whether the keys of the dict are just the outlooks."""
        return len(values) == len(self._numbers) and all([pairs in values for pairs in self._numbers])

    def endless(self, ways_on):
        """A row that leads to one of the outlooks with ways on, and a row of such ways on that leads back to it."""
        place = list(ways_on)[0]
        places = {}
        turn = []
        while place not in places:
            places[place] = len(turn)
            deed, place = ways_on[place]
            turn.append(deed)
        pairs = list(self._numbers)[place]
        return way_to(self._found, pairs), tuple(turn[places[place]:])

    def _ways_to_acts(self, left):
        """The dict from those of the outlooks that are left from which deeds lead to an act that ends in one of them.

        It leads to a pair (deed, number): the act, or the first deed of a way to one.
        """
        found = {}
        back = {number: [] for number in left}
        for number, deed, end, acts in self._steps:
            if number in left and end in left:
                if acts:
                    found[number] = (deed, end)
                else:
                    back[end].append((number, deed))
        waiting = list(found)
        done = 0
        while done < len(waiting):
            end = waiting[done]
            for number, deed in back[end]:
                if number not in found:
                    found[number] = (deed, end)
                    waiting.append(number)
            done += 1
        return found


def for_ever(house, wish, stem, turn, hand):
    """The set of the states that are the view of the hand behind one of its deeds again and again without end."""
    check_house(house)
    check_wish(wish)
    check_row(stem, house.deeds)
    check_row(turn, house.deeds)
    if not turn:
        raise InvalidRow("a turn has deeds")
    check_known(hand, house.hands)
    check_steady(house, wish)
    views, again = _turns(house, wish, stem, turn, hand)
    return tuple(sorted({state for states in views[again:] for state in states}))


def does_meet(house, wish, hand, goal):
    """Whether the hand misses its goal in no endless row."""
    _check_goal(house, wish, hand, goal)
    return not Paths(house, wish, hand, goal).ranked()[1]


def goal_paper(house, wish, hand, goal):
    """An endless row in which the hand misses its goal, or ranks of the outlooks which show that there is none."""
    _check_goal(house, wish, hand, goal)
    paths = Paths(house, wish, hand, goal)
    ranks, ways_on = paths.ranked()
    if ways_on:
        return ("misses",) + paths.endless(ways_on)
    return ("meets", paths.sorted_ranks(ranks))


def is_goal_paper(house, wish, hand, goal, value):
    """Whether the value is such a paper."""
    _check_goal(house, wish, hand, goal)
    paths = Paths(house, wish, hand, goal)
    if has_parts(value, 2):
        word, ranks = value
        return word == "meets" and _are_ranks(house, wish, paths, ranks) and paths.has_ranks(ranks)
    if not has_parts(value, 3):
        return False
    word, stem, turn = value
    if word != "misses" or not is_row(stem, house.deeds) or not is_row(turn, house.deeds) or not turn:
        return False
    views, again = _turns(house, wish, stem, turn, hand)
    return views[0] != [] and not any([state in goal for states in views for state in states])


def _check_goal(house, wish, hand, goal):
    check_house(house)
    check_wish(wish)
    check_known(hand, house.hands)
    check_states(wish, goal)
    check_steady(house, wish)


def _view(house, pairs, hand):
    """The view of a hand, by the outlook."""
    return dict(zip(house.hands, pairs))[hand][1]


def _turns(house, wish, stem, turn, hand):
    """For each turn, till they come again, the views of the hand behind its deeds; and which turn comes again."""
    scheme = Scheme(house, wish)
    mates = _mates(house, turn, hand)
    # What other hands do in the turn never comes to this hand, and with them the turns might come again much later.
    deeds = [deed for deed in turn if house[deed][0] in mates]
    pairs = scheme.behind(stem)
    seen = {}
    views = []
    known = _of_mates(house, pairs, mates)
    while known not in seen:
        seen[known] = len(views)
        states = []
        for deed in deeds:
            pairs = scheme.moved(pairs, deed)
            if hand in house[deed]:
                states.append(_view(house, pairs, hand))
        views.append(states)
        known = _of_mates(house, pairs, mates)
    return views, seen[known]


def _mates(house, turn, hand):
    """The hand and all hands to which the deeds of a turn link it, at once or by others."""
    found = [hand]
    done = 0
    while done < len(found):
        for deed in house.deeds_of(found[done]):
            if deed in turn:
                found = found + [mate for mate in house[deed] if mate not in found]
        done += 1
    return found


def _of_mates(house, pairs, mates):
    return tuple([pair for hand, pair in zip(house.hands, pairs) if hand in mates])


def _are_ranks(house, wish, paths, value):
    """Whether the value is a dict from just the outlooks to integers from 0 on."""
    if not isinstance(value, dict) or not paths.are_keys(value):
        return False
    # In Python True is 1, so the keys that are there are looked at, too.
    if not all([are_pairs(pairs, len(house), len(wish)) for pairs in value]):
        return False
    return all([is_integer(rank) and rank >= 0 for rank in value.values()])
