"""Orders of the cards of a pack, from the top down."""

from riftcarry.wholes import is_whole

MOST_CARDS = 60


def is_order(cards):
    if not 1 <= len(cards) <= MOST_CARDS:
        return False
    # Asked ahead of the sorting, to which True is as good as 1, and which fails on None and texts.
    if not all([is_whole(card) for card in cards]):
        return False
    return sorted(cards) == first(len(cards))


def first(n):
    return list(range(n))


def places(order):
    above = [0] * len(order)
    for place, card in enumerate(order):
        above[card] = place
    return above


def laid(one, other):
    return [one[card] for card in other]


def falls(order):
    return len([p for p in range(len(order) - 1) if order[p + 1] < order[p]])


def runs(order):
    # A run ends at card c where c + 1 lies above c, which is where the places fall.
    return falls(places(order)) + 1
