"""Riffles: a pack cut into heaps, some of them turned over, and laid anew by a word."""

from riftcarry.errors import NoRiffle
from riftcarry.orders import laid, places
from riftcarry.wholes import is_whole

MOST_HEAPS = 400


def is_marks(marks):
    if not 1 <= len(marks) <= MOST_HEAPS:
        return False
    return all([isinstance(mark, bool) for mark in marks])


def is_word(marks, word, n):
    return len(word) == n and all([is_heap(marks, part) for part in word])


def is_heap(marks, part):
    return is_whole(part) and 0 <= part < len(marks)


def check_word(marks, word, n):
    if not is_word(marks, word, n):
        raise NoRiffle("this is no word for these heaps and cards")


def sizes(marks, word):
    check_word(marks, word, len(word))
    return [word.count(heap) for heap in range(len(marks))]


def riffled(order, marks, word):
    check_word(marks, word, len(order))
    return laid(order, places_drawn_from(marks, word))


def undone(order, marks, word):
    check_word(marks, word, len(order))
    # Each card goes back to the place from which the riffle drew it.
    return laid(order, places(places_drawn_from(marks, word)))


def places_drawn_from(marks, word):
    tops = places_of_tops(marks, sizes(marks, word))
    drawn = []
    for heap in word:
        drawn.append(tops[heap])
        # Downward through a turned heap is upward through the pack it was cut from.
        tops[heap] = tops[heap] - 1 if marks[heap] else tops[heap] + 1
    return drawn


def places_of_tops(marks, counts):
    tops = []
    start = 0
    for turned, count in zip(marks, counts):
        # An empty heap has no top card, but no word asks for one of it.
        tops.append(start + count - 1 if turned else start)
        start = start + count
    return tops
