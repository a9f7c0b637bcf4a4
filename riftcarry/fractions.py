"""Fractions in their least terms."""


def fraction(top, bottom):
    common = greatest_common(abs(top), abs(bottom))
    # A bottom below 0 gives its sign to the top.
    divisor = common if bottom > 0 else -common
    return (top // divisor, bottom // divisor)


def shares(table, whole):
    return [shares_of_row(row, whole) for row in table]


def shares_of_row(row, whole):
    return [fraction(number, whole) for number in row]


def greatest_common(one, other):
    while other != 0:
        rest = one % other
        one = other
        other = rest
    return one
