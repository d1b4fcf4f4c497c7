"""Deeds that are refused, as their hands know that they would lead a steady wish into a lasting set of states."""

from eachshare.base.checks import check_house, check_known, check_row, has_parts, is_row
from eachshare.know.checks import check_lasting, check_row_and_set, check_set
from eachshare.know.knowing import view_behind
from eachshare.know.noticing import missed
from eachshare.share.checks import check_wish
from eachshare.share.joins import Scheme
from eachshare.share.steady import check_steady
from eachshare.wish.machines import least_machine
from eachshare.wish.wishes import MAX_STATES, Wish


def is_refused(house, wish, row, deed, states):
    """Whether the view of the deed's hands behind the row, together, and then the deed lead into the set."""
    check_house(house)
    check_wish(wish)
    check_row(row, house.deeds)
    check_known(deed, house.deeds)
    check_lasting(wish, states)
    check_steady(house, wish)
    return refuses(house, wish, row, deed, states)


def is_let(house, wish, row, states):
    """Whether state 0 is not in the set and no deed of the row is refused behind those ahead of it."""
    check_row_and_set(house, wish, row, states)
    return lets(house, wish, row, states)


def let_rows(house, wish, states):
    """The wish of all rows that are let."""
    check_set(house, wish, states)
    scheme = Scheme(house, wish)
    numbers = {pairs: number for number, pairs in enumerate(scheme.outlooks())}
    lost = len(numbers)
    targets = []
    for pairs in numbers:
        ends = [scheme.moved(pairs, deed) for deed in house.deeds]
        refused = [_leads_in(house, end, deed, states) for end, deed in zip(ends, house.deeds)]
        targets.append(tuple([lost if no else numbers[end] for end, no in zip(ends, refused)]))
    targets.append((lost,) * len(house.deeds))
    let = [] if 0 in states else list(range(lost))
    least, kept = least_machine(targets, let, MAX_STATES)
    return Wish(house.deeds, least, kept)


def refusal_paper(house, wish, states):
    """A row that is let and leads into the set, or that there is none."""
    check_set(house, wish, states)
    found = missed(house, wish, states)
    if found is None:
        return ("kept",)
    # No deed of this row, which leads into the set by its last deed, is refused, as the hands of that know too little.
    row, one, other = found
    return ("lost", row + (one, other))


def is_refusal_paper(house, wish, states, value):
    """Whether the value is such a paper."""
    check_set(house, wish, states)
    if has_parts(value, 1):
        return value[0] == "kept" and missed(house, wish, states) is None
    if not has_parts(value, 2):
        return False
    word, row = value
    if word != "lost" or not is_row(row, house.deeds):
        return False
    return wish.after(row) in states and lets(house, wish, row, states)


def refuses(house, wish, row, deed, states):
    """Whether the deed is refused behind the row, by arguments that are right."""
    return wish.moved(view_behind(house, wish, row, house[deed]), deed) in states


def first_refused(house, wish, row, states):
    """How many deeds of the row stand ahead of the first one that is refused, or None, by arguments that are right."""
    scheme = Scheme(house, wish)
    pairs = scheme.start()
    for place, deed in enumerate(row):
        pairs = scheme.moved(pairs, deed)
        if _leads_in(house, pairs, deed, states):
            return place
    return None


def lets(house, wish, row, states):
    """Whether the row is let, by arguments that are right."""
    return 0 not in states and first_refused(house, wish, row, states) is None


def _leads_in(house, pairs, deed, states):
    """Whether the view of the deed's hands right behind it, as the outlook there has it, is in the set."""
    # A hand of the deed knows right behind it just what all its hands knew together, and the deed.
    views = {hand: state for hand, (base, state) in zip(house.hands, pairs)}
    return views[house[deed][0]] in states
