"""How many ways there are to choose, and how many orders have so many falls."""


def choose(n, k):
    if k < 0 or k > n:
        return 0
    ways = 1
    # To choose k is to leave n - k: the fewer of the two make the shorter way.
    for taken in range(min(k, n - k)):
        # This never leaves a rest: it comes to the ways to choose taken + 1.
        ways = ways * (n - taken) // (taken + 1)
    return ways


def by_falls(n):
    counts = [1]
    while len(counts) < n:
        counts = with_one_card_more(counts)
    return counts


def with_one_card_more(counts):
    # The new greatest card makes no new fall at the end or inside a fall; at each other place it makes one.
    cards = len(counts) + 1
    kept = counts + [0]
    grown = [0] + counts
    return [(j + 1) * kept[j] + (cards - j) * grown[j] for j in range(cards)]
