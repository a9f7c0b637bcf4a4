"""A desk that has a pack, and answers rows of text."""

from riftcarry.columns import added
from riftcarry.errors import NoText
from riftcarry.even import far
from riftcarry.orders import falls, runs
from riftcarry.packs import Pack
from riftcarry.tables import carries
from riftcarry.texts import read_marks, read_number, read_numbers, show_marks, show_numbers
from riftcarry.turned import by_first, by_second, rests
from riftcarry.ways import how_many, way

MOST_ADDED = 60
MOST_IN_TABLE = 12
MOST_CARDS_FAR = 20
MOST_HEAPS_FAR = 60
MOST_RIFFLES_FAR = 20


class Desk:
    def __init__(self):
        self.pack = Pack(1)

    def say(self, row):
        words = row.split(" ")
        if len(words) == 1:
            return answer_to_word(self.pack, words[0])
        if words[0] == "pack" and len(words) == 2:
            # The desk keeps its pack where the new one is refused.
            self.pack = Pack(read_number(words[1]))
            return show_numbers(self.pack.order())
        return answer_to_words(self.pack, words[0], words[1:])


def answer_to_word(pack, asked):
    if asked == "undo":
        return show_numbers(pack.undo())
    if asked == "order":
        return show_numbers(pack.order())
    if asked == "falls":
        return str(falls(pack.order()))
    if asked == "runs":
        return str(runs(pack.order()))
    if asked == "whole":
        return show_whole(pack.whole())
    if asked == "second":
        return show_cut(by_second(pack.order()))
    if asked == "first":
        return show_cut(by_first(pack.order()))
    if asked == "rests":
        return show_rests(rests(pack.order()))
    raise NoText("no row has this word alone")


def answer_to_words(pack, asked, words):
    # Each word is read before the pack is asked, so that what is badly written is refused ahead of all else.
    if asked == "riffle":
        return show_numbers(pack.riffle(read_marks(words[0]), read_numbers(words[1:])))
    if asked == "ways" and len(words) == 1:
        return str(how_many(pack.order(), read_marks(words[0])))
    if asked == "way" and len(words) == 2:
        return show_numbers(way(pack.order(), read_marks(words[0]), read_number(words[1])))
    if asked == "carry" and len(words) == 4:
        return answer_to_carry(read_numbers(words))
    if asked == "add" and len(words) <= MOST_ADDED:
        return answer_to_add(words)
    if asked == "far" and len(words) == 2:
        return answer_to_far(len(pack.order()), read_number(words[0]), read_number(words[1]))
    raise NoText("no row has this word with so many behind it")


def answer_to_carry(numbers):
    m = numbers[0]
    b = numbers[1]
    i = numbers[2]
    j = numbers[3]
    if not 1 <= m <= MOST_IN_TABLE or b < 1 or i >= m or j >= m:
        raise NoText("no table has this number")
    return str(carries(m, b)[i][j])


def answer_to_add(words):
    numbers = read_numbers(words)
    columns = max([len(word) for word in words])
    carried_on = added([figures_of(word, columns) for word in words], 10)[1]
    return show_numbers([sum(numbers)] + carried_on)


def figures_of(word, columns):
    return [int(sign) for sign in word.zfill(columns)[::-1]]


def answer_to_far(n, b, k):
    if n > MOST_CARDS_FAR or not 1 <= b <= MOST_HEAPS_FAR or k > MOST_RIFFLES_FAR:
        raise NoText("how far this is from even is not told")
    told = far(n, b, k)
    top = told[0]
    bottom = told[1]
    return f"{top}/{bottom}"


def show_whole(riffle):
    return show_marks(riffle[0]) + " " + show_numbers(riffle[1])


def show_cut(told):
    word = "cut" if told[0] else "breaks"
    count = told[1]
    return f"{word} {count}"


def show_rests(told):
    return "none" if told is None else show_numbers(list(told))
