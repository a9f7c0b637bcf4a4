"""Numbers added column by column, and what is carried."""

from riftcarry.errors import NoFigures
from riftcarry.tables import carries, multiplied
from riftcarry.wholes import is_whole


def added(numbers, b):
    if not are_numbers(numbers, b):
        raise NoFigures("these are no numbers of one count of figures in this base")
    figures = []
    carried_on = []
    carry = 0
    for column in range(len(numbers[0])):
        total = carry + sum([number[column] for number in numbers])
        carry = total // b
        figures.append(total % b)
        carried_on.append(carry)
    return (figures, carried_on)


def are_numbers(numbers, b):
    if not numbers:
        return False
    columns = len(numbers[0])
    return all([len(number) == columns and is_number(number, b) for number in numbers])


def is_number(number, b):
    return all([is_whole(part) and 0 <= part < b for part in number])


def carried(m, b, columns):
    table = carries(m, b)
    # Nothing is carried into the first column. The row is the first list of the product, so the others are never
    # worked out.
    row = [1] + [0] * (m - 1)
    for column in range(columns):
        row = multiplied(row, table)
    return row
