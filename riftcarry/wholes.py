"""Whole numbers, which truths are not, and their powers."""


def is_whole(thing):
    # Python counts True and False among the ints.
    return isinstance(thing, int) and not isinstance(thing, bool)


def power(base, times):
    number = 1
    for step in range(times):
        number = number * base
    return number
