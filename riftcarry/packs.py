"""A pack, and the riffles that are done to it and undone."""

from riftcarry.errors import NoMarks, NoPack, NoRiffle, TooMany
from riftcarry.joining import joined, joined_marks
from riftcarry.orders import MOST_CARDS, first
from riftcarry.riffles import MOST_HEAPS, is_marks, riffled, undone
from riftcarry.wholes import is_whole


class Pack:
    def __init__(self, n):
        if not is_whole(n) or not 1 <= n <= MOST_CARDS:
            raise NoPack("this is no number of cards")
        self.cards = first(n)
        self.riffles = []

    def riffle(self, marks, word):
        if not is_marks(marks):
            raise NoMarks("these are no marks of heaps")
        self.cards = riffled(self.cards, marks, word)
        self.riffles.append((list(marks), list(word)))
        return self.order()

    def undo(self):
        if not self.riffles:
            raise NoRiffle("no riffle is left to undo")
        last = self.riffles.pop()
        self.cards = undone(self.cards, last[0], last[1])
        return self.order()

    def order(self):
        return list(self.cards)

    def done(self):
        return [(list(marks), list(word)) for marks, word in self.riffles]

    def whole(self):
        marks = [False]
        word = [0] * len(self.cards)
        for others, more in self.riffles:
            # No riffle has less than one heap, so the product never shrinks again.
            if len(marks) * len(others) > MOST_HEAPS:
                raise TooMany("the one riffle has too many heaps")
            word = joined(marks, word, others, more)
            marks = joined_marks(marks, others)
        return (marks, word)
