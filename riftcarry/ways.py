"""The ways in which an order comes from the first order by some heaps, and their numbers."""

from riftcarry.choosing import choose
from riftcarry.errors import NoWay
from riftcarry.orders import first, laid, places, runs
from riftcarry.riffles import riffled


def how_many(order, marks):
    return counted(each_above_next(order), marks)[0][0]


def way(order, marks, number):
    above_next = each_above_next(order)
    table = counted(above_next, marks)
    if not 0 <= number < table[0][0]:
        raise NoWay("no way has this number")
    heaps = []
    least = 0
    left = number
    for card, row in enumerate(table):
        heap = least
        while row[least] - row[heap + 1] <= left:
            heap = heap + 1
        left = left - (row[least] - row[heap])
        heaps.append(heap)
        least = least_for_next(above_next[card], marks, heap)
    return laid(heaps, order)


def number_of(order, marks, word):
    if riffled(first(len(order)), marks, word) != order:
        raise NoWay("this word leads to another order")
    above_next = each_above_next(order)
    # A word has the heaps by places, but ways are numbered by the heaps of card after card.
    heaps = laid(word, places(order))
    number = 0
    least = 0
    for card, row in enumerate(counted(above_next, marks)):
        number = number + row[least] - row[heaps[card]]
        least = least_for_next(above_next[card], marks, heaps[card])
    return number


def plain(order, heaps):
    n = len(order)
    return choose(heaps + n - runs(order), n)


def each_above_next(order):
    place = places(order)
    # The last card has no next one, so nothing hangs on the truth that stands for it.
    return [place[card] < place[card + 1] for card in range(len(order) - 1)] + [True]


def least_for_next(above_next, marks, heap):
    # A plain heap brings a card out above its next one, a turned heap below it. Where the order has the two the other
    # way, the next card must lie in a later heap, of which any will do.
    return heap if above_next != marks[heap] else heap + 1


def counted(above_next, marks):
    # A row counts, at each heap, the ways in which its card goes into that heap or a later one, and all greater cards
    # where they can: so the ways that go ahead of those with a given heap are one number less another.
    heaps = len(marks)
    # With no card left there is one way, whichever heap the last card went into.
    behind = [1] * (heaps + 1)
    table = []
    for card in range(len(above_next) - 1, -1, -1):
        row = [0] * (heaps + 1)
        for heap in range(heaps - 1, -1, -1):
            row[heap] = row[heap + 1] + behind[least_for_next(above_next[card], marks, heap)]
        table.append(row)
        behind = row
    return table[::-1]
