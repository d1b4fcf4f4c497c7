"""What the document says of links, trees and sides, worked out again in another way than the program does."""

from itertools import combinations

HANDS = ("a", "b", "c", "d", "e")


def deeds_of_links(hands, links):
    """A dict of deeds with these links; without links, of one deed of one hand."""
    deeds = {f"d{one}{other}": (one, other) for one, other in links}
    return deeds or {"alone": (hands[0],)}


def graphs():
    """All sets of links of one to five hands, as far as a house can have so many deeds."""
    for many in range(1, 6):
        hands = HANDS[:many]
        pairs = list(combinations(hands, 2))
        for size in range(min(len(pairs), 8) + 1):
            for links in combinations(pairs, size):
                yield hands, links


def forests():
    return [(hands, links) for hands, links in graphs() if not has_ring(links)]


def has_ring(links):
    """Links have a ring if some are left when each link at an end of a line is taken away, again and again."""
    left = set(links)
    while left:
        ends = [hand for pair in left for hand in pair]
        loose = {pair for pair in left if ends.count(pair[0]) == 1 or ends.count(pair[1]) == 1}
        if not loose:
            return True
        left -= loose
    return False


def neighbours(links, hand):
    return [pair[1 - pair.index(hand)] for pair in links if hand in pair]


def reach(links, hand):
    """All hands to which links lead from this one, itself among them."""
    met = {hand}
    while True:
        more = {other for one in met for other in neighbours(links, one)} - met
        if not more:
            return met
        met |= more


def above(links, hand):
    """The linked hand from which the top can still be reached without this hand."""
    top = min(reach(links, hand))
    if hand == top:
        return None
    rest = [pair for pair in links if hand not in pair]
    return [other for other in neighbours(links, hand) if top in reach(rest, other)][0]


def side(links, hand):
    """All hands from which the top can't be reached any more without the link of this hand with the one above."""
    upper = above(links, hand)
    rest = [pair for pair in links if upper is None or set(pair) != {hand, upper}]
    return tuple(sorted(reach(rest, hand)))


def apart(deeds):
    pairs = combinations(sorted(deeds), 2)
    return tuple(pair for pair in pairs if not set(deeds[pair[0]]) & set(deeds[pair[1]]))
