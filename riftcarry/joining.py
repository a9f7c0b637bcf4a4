"""Two riffles, one behind the other, in one."""

from riftcarry.riffles import check_word, riffled, undone


def joined_marks(marks, others):
    b = len(others)
    return [marks[heap // b] != others[seen(marks, others, heap // b, heap % b)] for heap in range(len(marks) * b)]


def joined(marks, word, others, more):
    check_word(marks, word, len(word))
    # The cards take the numbers of their first heaps along with them.
    firsts = riffled(word, others, more)
    return [heap * len(others) + seen(marks, others, heap, other) for heap, other in zip(firsts, more)]


def parted(marks, others, word):
    check_word(joined_marks(marks, others), word, len(word))
    b = len(others)
    firsts = [heap // b for heap in word]
    more = [seen(marks, others, heap // b, heap % b) for heap in word]
    return (undone(firsts, others, more), more)


def seen(marks, others, heap, other):
    # The cards of a turned heap lie the other way about when they are cut again, so they count the other heaps from
    # behind; the same step leads back.
    return len(others) - 1 - other if marks[heap] else other
