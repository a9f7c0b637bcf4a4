"""How far from even a pack is behind some riffles."""

from riftcarry.choosing import by_falls, choose
from riftcarry.fractions import fraction
from riftcarry.wholes import power


def chance(n, heaps, r):
    return fraction(words_to_order(n, heaps, r), power(heaps, n))


def far(n, b, k):
    heaps = power(b, k)
    words = power(heaps, n)
    # The places of an order have one run more than it has falls, so as many orders have r runs as have r - 1 falls.
    counts = by_falls(n)
    orders = sum(counts)
    # All that is summed is taken words times orders over, which keeps it whole.
    apart = 0
    for r, count in enumerate(counts, start=1):
        apart = apart + count * abs(words_to_order(n, heaps, r) * orders - words)
    return fraction(apart, 2 * words * orders)


def words_to_order(n, heaps, r):
    return choose(heaps + n - r, n)
