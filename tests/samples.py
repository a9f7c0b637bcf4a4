"""Orders, marks and words for the tests to go through."""

from itertools import permutations, product

from riftcarry.errors import NoFigures, NoMarks, NoPack, NoRiffle, NoText, NoWay, RiftError, TooMany

REFUSALS = [NoPack, NoMarks, NoRiffle, NoWay, TooMany, NoFigures, NoText]


def all_orders(n):
    return [list(cards) for cards in permutations(range(n))]


def mixed(n):
    """An order of n cards without a plain pattern: card after card drawn from what is left."""
    left = list(range(n))
    order = []
    state = n
    while left:
        state = (state * 1103 + 12345) % 65537
        order.append(left.pop(state % len(left)))
    return order


def large_orders(n):
    upward = list(range(n))
    return [upward, upward[::-1], upward[1::2] + upward[::2], upward[n // 2:] + upward[:n // 2], mixed(n)]


def sample_orders():
    orders = []
    for n in range(1, 7):
        orders.extend(all_orders(n))
    for n in range(7, 61):
        orders.extend(large_orders(n))
    return orders


def all_marks(heaps):
    return [list(marks) for marks in product([False, True], repeat=heaps)]


def all_words(heaps, n):
    return [list(word) for word in product(range(heaps), repeat=n)]


def mixed_word(heaps, n, seed=1):
    """A word without a plain pattern."""
    word = []
    state = seed * 7919 + heaps * 31 + n
    for place in range(n):
        state = (state * 1103 + 12345) % 65537
        word.append(state % heaps)
    return word


def mixed_marks(heaps, seed=1):
    return [part == 1 for part in mixed_word(2, heaps, seed + 5)]


def sample_marks(heaps):
    """All plain, all turned, by turns, and without a pattern."""
    by_turns = [heap % 2 == 1 for heap in range(heaps)]
    return [[False] * heaps, [True] * heaps, by_turns, mixed_marks(heaps)]


def sample_words(heaps, n):
    """One heap alone, in both ends; all heaps in turn, up and down; without a pattern."""
    upward = [place * heaps // n for place in range(n)]
    by_turns = [place % heaps for place in range(n)]
    return [[0] * n, [heaps - 1] * n, upward, upward[::-1], by_turns, mixed_word(heaps, n), mixed_word(heaps, n, 2)]


def riffled_by_hand(order, marks, word):
    """A riffle done heap by heap: cut, turned over, laid from the tops."""
    left = list(order)
    heaps = []
    for number, turned in enumerate(marks):
        heap = []
        for part in word:
            if part == number:
                heap.append(left.pop(0))
        if turned:
            heap = heap[::-1]
        heaps.append(heap)
    return [heaps[part].pop(0) for part in word]


def falls_by_hand(order):
    return sum(order[p + 1] < order[p] for p in range(len(order) - 1))


WRONG_PARTS = [-1, -2, -10 ** 299, 10 ** 299, True, False, None, "", "0", "1", "p"]


def wrong_words(heaps, n):
    """Lists that are no words for so many heaps and cards: one part wrong, at each end and between; other lengths."""
    good = mixed_word(heaps, n)
    words = [good[1:], good[:-1], good + [0], [0] + good, good + [None]]
    for part in [*WRONG_PARTS, heaps, heaps + 1]:
        for place in sorted({0, n // 2, n - 1}):
            words.append(good[:place] + [part] + good[place + 1:])
    return words


# A nought ahead, a sign, a blank, no signs at all, other signs, thirteen figures and more.
BAD_NUMBERS = [
    "", " ", "00", "01", "007", "0" * 12, "0" * 13, "000000000001", "+1", "-1", "+0", "-0", "--1", " 1", "1 ", "1 2",
    "1,000", "1.0", "1.", ".5", "1_0", "1e3", "0x1", "0b1", "1/1", "x", "p", "t", "one", "True", "None", "1a", "a1",
    "O", "1000000000000", "9999999999999", "1" * 60, "9" * 2000, "0" * 2000,
]

# Great letters, other signs, a blank, no signs at all, 401 signs and more.
BAD_MARKS = [
    "", " ", "P", "T", "pT", "Pt", "PT", " p", "p ", "p t", "  ", "q", "x", "pq", "tx", "0", "1", "01", "10", "p,t",
    "-p", "p-", "plain", "turned", "True", "False", "p" * 401, "t" * 401, "pt" * 201, "p" * 2000, "p" * 400 + " ",
    "p" * 200 + "P" + "p" * 199,
]


def check_refused(test, refusal, ask, *handed_in):
    """Refused by just this refusal, under RiftError and ValueError, and by none of the others."""
    with test.assertRaises(refusal, msg=handed_in) as taken:
        ask(*handed_in)
    test.assertIsInstance(taken.exception, RiftError)
    test.assertIsInstance(taken.exception, ValueError)
    test.assertEqual([other for other in REFUSALS if isinstance(taken.exception, other)], [refusal])
