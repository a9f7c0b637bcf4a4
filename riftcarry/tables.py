"""Tables by which carries follow on carries and falls on falls, and how they are multiplied."""

from riftcarry.choosing import choose


def carries(m, b):
    return [carries_from(m, b, i) for i in range(m)]


def falls_table(m, b):
    # When packs are riffled, falls follow on falls just as carries on carries.
    return carries(m, b)


def carries_from(m, b, i):
    return [carries_from_to(m, b, i, j) for j in range(m)]


def carries_from_to(m, b, i, j):
    # The rows are counted as if figures had no bound; those with figures of b or more are taken off again, by turns
    # too many and too few.
    count = 0
    sign = 1
    # Beyond j, the upper number is below m, and there is nothing to choose.
    for t in range(j + 1):
        count = count + sign * choose(m + 1, t) * choose(m - 1 - i + (j + 1 - t) * b, m)
        sign = -sign
    return count


def product(one, other):
    return [multiplied(row, other) for row in one]


def multiplied(row, table):
    sums = [0] * len(row)
    for times, numbers in zip(row, table):
        sums = [so_far + times * number for so_far, number in zip(sums, numbers)]
    return sums
