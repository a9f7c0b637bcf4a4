"""Orders that come by two heaps of which just one is turned."""


def by_second(order):
    # What is left of the cards is always a stretch, from the least to the greatest.
    least = 0
    greatest = len(order) - 1
    for place, card in enumerate(order):
        if card == least:
            least = least + 1
        elif card == greatest:
            greatest = greatest - 1
        else:
            return (False, place + 1)
    # The last card could come from either heap; out of the turned one, it leaves the first with the cards below it.
    return (True, order[-1])


def by_first(order):
    # The stretch ends ahead of end, so that it can begin empty.
    start = order[0]
    end = order[0]
    for place, card in enumerate(order):
        if card == end:
            end = end + 1
        elif card == start - 1:
            start = card
        else:
            return (False, place + 1)
    # The first card could come from either heap; out of the plain one, it leaves the turned one with the cards below.
    return (True, order[0])


def rests(order):
    n = len(order)
    for j in range(1, n + 1):
        for place in range(0, n - j + 1, j):
            if not leave_unlike_rests(order[place:place + j]):
                return (j, place)
    return None


def leave_unlike_rests(cards):
    j = len(cards)
    return len(set([card % j for card in cards])) == j
