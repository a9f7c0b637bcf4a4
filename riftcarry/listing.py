"""Falls counted by going through all words one by one."""

from riftcarry.errors import TooMany
from riftcarry.orders import falls
from riftcarry.riffles import riffled

MOST_WORDS = 4096


def falls_from(order, b):
    m = len(order)
    if how_many_words(m, b) > MOST_WORDS:
        raise TooMany("there are too many words to go through")
    marks = [False] * m
    counts = [0] * m
    for word in all_words(m, b):
        reached = falls(riffled(order, marks, without_empty_heaps(word)))
        counts[reached] = counts[reached] + 1
    return counts


def how_many_words(m, b):
    count = 1
    for place in range(m):
        count = count * b
    return count


def all_words(m, b):
    words = [[]]
    for place in range(m):
        longer = []
        for word in words:
            longer.extend([word + [heap] for heap in range(b)])
        words = longer
    return words


def without_empty_heaps(word):
    # Empty heaps change nothing, and b heaps may be far more than there are cards.
    used = sorted(set(word))
    return [used.index(heap) for heap in word]
