"""Falls counted by going through all words one by one."""

from riftcarry.errors import TooMany
from riftcarry.orders import falls
from riftcarry.riffles import riffled
from riftcarry.wholes import power

MOST_WORDS = 4096


def falls_from(order, b):
    m = len(order)
    if power(b, m) > MOST_WORDS:
        raise TooMany("there are too many words to go through")
    marks = [False] * m
    counts = [0] * m
    for word in all_words(m, b):
        reached = falls(riffled(order, marks, without_empty_heaps(word)))
        counts[reached] = counts[reached] + 1
    return counts


def all_words(m, b):
    words = [[]]
    for place in range(m):
        longer = []
        for word in words:
            longer.extend([word + [heap] for heap in range(b)])
        words = longer
    return words


def without_empty_heaps(word):
    # Empty heaps change nothing, and b heaps may be far more than there are cards.
    used = sorted(set(word))
    return [used.index(heap) for heap in word]
