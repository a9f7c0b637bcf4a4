import unittest
from copy import deepcopy
from math import comb, factorial

from riftcarry.columns import added
from riftcarry.desk import Desk
from riftcarry.errors import NoPack, NoRiffle, NoText, NoWay, TooMany
from riftcarry.even import far
from riftcarry.orders import falls, runs
from riftcarry.packs import Pack
from riftcarry.tables import carries
from riftcarry.turned import by_first, by_second, rests
from riftcarry.ways import how_many, way
from tests.samples import BAD_MARKS, BAD_NUMBERS, check_refused, mixed_marks, mixed_word, sample_marks, sample_words

MOST = "999999999999"

# Each row of the interface, as it is asked of a desk with a pack of three cards to which one riffle is done.
GOOD_ROWS = [
    "pack 3", "riffle p 0 0 0", "riffle pt 1 0 1", "undo", "order", "falls", "runs", "whole", "ways p", "ways ptp",
    "way ptp 0", "second", "first", "rests", "carry 3 2 1 1", "carry 12 999999999999 11 0", "add 7", "add 95 7 8",
    "far 2 3", "far 60 0",
]

# Words fewer and words more, and words that no row has.
OTHER_ROWS = [
    "", " ", "  ", "   ", "pack", "riffle", "ways", "way", "way p", "carry", "carry 3", "carry 3 2", "carry 3 2 1",
    "add", "far", "far 2", "pack 3 4", "pack 3 p", "ways p p", "ways p 0", "way p 0 0", "carry 3 2 1 1 1", "far 2 3 4",
    "undo 1", "undo undo", "order 0", "falls 1", "runs p", "whole p", "second 1", "first 1", "rests 1", "3", "p", "pt",
    "0 1 2", "done", "places", "undone", "riffled", "orders", "orde", "order.", "order!", "-order", "fall", "run",
    "packs 3", "packs", "pac 3", "rifle p 0 0 0", "way's p", "carries 3 2 1 1", "adds 1", "sum 1", "even 2 3", "cut 1",
    "breaks 1", "none", "third", "quit", "help", "~", "order\\", "order;undo", "order,undo", "order undo", "ORDER",
    "riffle p 0 0 0 undo", "pack-3", "pack3", "riffle pt101", "add 1+2", "add 1 + 2", "far 2/3", "far 2 1/3",
]


def written(row):
    return " ".join(str(number) for number in row)


def signs(marks):
    return "".join("t" if mark else "p" for mark in marks)


def answer(desk, row):
    """What the desk answers, or the class by which it refuses."""
    try:
        return desk.say(row)
    except (NoPack, NoRiffle, NoText, NoWay, TooMany) as taken:
        return taken.__class__


def told_by(desk):
    """All that the desk's later answers hang on, asked of its twin: its order, its riffle, all that can be undone."""
    twin = deepcopy(desk)
    told = [answer(twin, "order"), answer(twin, "whole")]
    while told[-1] is not NoRiffle:
        told.append(answer(twin, "undo"))
    return told


def desks():
    """A new desk; one with a riffle done; one with one undone; twenty, twenty-one and sixty cards; too many heaps."""
    stories = [
        [], ["pack 3"], ["pack 3", "riffle pt 1 0 1"], ["pack 3", "riffle pt 1 0 1", "riffle tp 0 0 1", "undo"],
        ["pack 2", "riffle " + "p" * 400 + " 399 0", "riffle tp 1 0"], ["pack 20", "riffle t" + " 0" * 20],
        ["pack 21"], ["pack 60", "riffle tpt " + written(mixed_word(3, 60))],
    ]
    told = []
    for story in stories:
        desk = Desk()
        for row in story:
            desk.say(row)
        told.append(desk)
    return told


class AnswersTest(unittest.TestCase):
    def run_through(self, steps):
        desk = Desk()
        for row, wanted in steps:
            told = desk.say(row)
            self.assertIs(told.__class__, str)
            self.assertEqual(told, wanted, row)

    def test_new_desk_has_one_card(self):
        self.run_through([
            ("order", "0"), ("falls", "0"), ("runs", "1"), ("whole", "p 0"), ("ways p", "1"), ("ways pt", "2"),
            ("way pt 0", "0"), ("way pt 1", "1"), ("second", "cut 0"), ("first", "cut 0"), ("rests", "none"),
            ("far 2 3", "0/1"), ("riffle t 0", "0"), ("whole", "t 0"), ("undo", "0"), ("whole", "p 0"),
        ])

    def test_pack(self):
        desk = Desk()
        for n in range(1, 61):
            self.assertEqual(desk.say(f"pack {n}"), written(range(n)))
            self.assertEqual(desk.say("order"), written(range(n)))
            self.assertEqual(desk.say("whole"), "p " + written([0] * n))
            self.assertIs(answer(desk, "undo"), NoRiffle)
            desk.say("riffle t " + written([0] * n))

    def test_pack_of_as_many_cards_anew(self):
        self.run_through([
            ("pack 3", "0 1 2"), ("riffle t 0 0 0", "2 1 0"), ("pack 3", "0 1 2"), ("order", "0 1 2"),
            ("whole", "p 0 0 0"),
        ])

    def test_riffle_undo_and_whole(self):
        self.run_through([
            ("pack 4", "0 1 2 3"), ("riffle pt 1 0 1 0", "3 0 2 1"), ("order", "3 0 2 1"), ("whole", "pt 1 0 1 0"),
            ("riffle tp 0 0 1 1", "0 3 2 1"), ("order", "0 3 2 1"), ("whole", "tptp 0 3 2 1"), ("undo", "3 0 2 1"),
            ("whole", "pt 1 0 1 0"), ("riffle t 0 0 0 0", "1 2 0 3"), ("undo", "3 0 2 1"), ("undo", "0 1 2 3"),
            ("whole", "p 0 0 0 0"),
        ])

    def test_told_of_an_order(self):
        self.run_through([
            ("pack 4", "0 1 2 3"), ("riffle pt 1 0 1 0", "3 0 2 1"), ("falls", "2"), ("runs", "3"), ("ways pt", "2"),
            ("way pt 0", "1 0 1 0"), ("way pt 1", "1 0 1 1"), ("ways p", "0"), ("ways ppp", "1"),
            ("way ppp 0", "2 0 1 0"), ("second", "cut 1"), ("first", "breaks 2"), ("rests", "3 0"), ("undo", "0 1 2 3"),
            ("falls", "0"), ("runs", "1"), ("ways pt", "2"), ("second", "cut 3"), ("first", "cut 0"), ("rests", "none"),
        ])

    def test_second_and_first(self):
        self.run_through([
            ("pack 5", "0 1 2 3 4"), ("riffle tp 0 1 0 1 1", "1 2 0 3 4"), ("first", "cut 1"), ("second", "breaks 1"),
            ("rests", "none"), ("pack 5", "0 1 2 3 4"), ("riffle ppppp 0 1 3 2 4", "0 1 3 2 4"), ("first", "breaks 3"),
            ("second", "breaks 3"), ("rests", "3 0"), ("pack 5", "0 1 2 3 4"),
            ("riffle ppppp 1 2 0 4 3", "1 2 0 4 3"), ("first", "breaks 4"), ("second", "breaks 1"), ("rests", "2 2"),
        ])

    def test_carry(self):
        self.run_through([
            ("carry 3 2 1 1", "6"), ("carry 3 2 0 0", "4"), ("carry 3 2 0 2", "0"), ("carry 3 2 1 0", "1"),
            ("carry 2 10 0 1", "45"), ("carry 2 10 1 1", "55"), ("carry 1 1 0 0", "1"), ("carry 12 1 11 11", "1"),
            ("carry 12 1 0 11", "0"), (f"carry 1 {MOST} 0 0", MOST),
            (f"carry 2 {MOST} 0 0", "499999999999500000000000"),
        ])

    def test_all_of_some_tables(self):
        desk = Desk()
        for m in range(1, 13):
            for b in [1, 2, 10, 10 ** 12 - 1]:
                table = carries(m, b)
                for i in range(m):
                    for j in range(m):
                        self.assertEqual(desk.say(f"carry {m} {b} {i} {j}"), str(table[i][j]))

    def test_add(self):
        self.run_through([
            ("add 0", "0 0"), ("add 7", "7 0"), ("add 10", "10 0 0"), ("add 7 5", "12 1"), ("add 5 5", "10 1"),
            ("add 99 1", "100 1 1"), ("add 1 99", "100 1 1"), ("add 95 7 8", "110 2 1"), ("add 0 0 0", "0 0"),
            ("add 0 100", "100 0 0 0"), ("add 90 20", "110 0 1"), ("add 12 345 6789", "7146 1 1 1 0"),
            (f"add 1 {MOST}", "1000000000000" + " 1" * 12), (f"add {MOST}", MOST + " 0" * 12),
            ("add" + f" {MOST}" * 60, "59999999999940 54" + " 59" * 11), ("add" + " 0" * 60, "0 0"),
            ("add" + " 9" * 60, "540 54"), ("add" + " 1" * 59 + " 100", "159 5 0 0"),
        ])

    def test_add_column_by_column(self):
        desk = Desk()
        for count in [1, 2, 3, 7, 59, 60]:
            for seed in range(20):
                lengths = mixed_word(12, count, seed)
                numbers = [sum(mixed_word(10 ** length, 9, seed + length)) for length in lengths]
                columns = max(len(str(number)) for number in numbers)
                figures = [[number // 10 ** column % 10 for column in range(columns)] for number in numbers]
                wanted = written([sum(numbers)] + added(figures, 10)[1])
                self.assertEqual(desk.say("add " + written(numbers)), wanted)

    def test_far(self):
        self.run_through([
            ("far 60 20", "0/1"), ("pack 2", "0 1"), ("far 2 0", "1/2"), ("far 2 1", "1/4"), ("far 2 2", "1/8"),
            ("pack 3", "0 1 2"), ("far 2 1", "1/3"), ("far 1 20", "5/6"), ("pack 4", "0 1 2 3"), ("far 2 3", "37/256"),
            ("riffle t 0 0 0 0", "3 2 1 0"), ("far 2 3", "37/256"), ("far 1 0", "23/24"),
        ])

    def test_far_to_the_bounds(self):
        desk = Desk()
        for n in [1, 2, 19, 20]:
            desk.say(f"pack {n}")
            for b in [1, 2, 59, 60]:
                for k in [0, 1, 19, 20]:
                    told = far(n, b, k)
                    self.assertEqual(desk.say(f"far {b} {k}"), f"{told[0]}/{told[1]}")
        self.assertEqual(desk.say("far 1 5"), f"{factorial(20) - 1}/{factorial(20)}")

    def test_ways_of_many_figures(self):
        desk = Desk()
        desk.say("pack 60")
        self.assertEqual(desk.say("ways " + "p" * 400), str(comb(459, 60)))
        word = way(list(range(60)), [False] * 400, 10 ** 12 - 1)
        self.assertEqual(desk.say("way " + "p" * 400 + " " + MOST), written(word))

    def test_two_desks_side_by_side(self):
        one = Desk()
        other = Desk()
        for desk, row, wanted in [
            (one, "pack 3", "0 1 2"), (other, "order", "0"), (other, "pack 4", "0 1 2 3"), (one, "order", "0 1 2"),
            (one, "riffle pt 1 0 1", "2 0 1"), (other, "order", "0 1 2 3"), (other, "undo", NoRiffle),
            (other, "riffle t 0 0 0 0", "3 2 1 0"), (one, "whole", "pt 1 0 1"), (other, "whole", "t 0 0 0 0"),
            (one, "falls", "1"), (other, "falls", "3"), (one, "runs", "2"), (other, "runs", "4"),
            (one, "ways pt", "2"), (other, "ways pt", "2"), (one, "way pt 1", "1 0 1"), (other, "way pt 0", "1 1 1 0"),
            (one, "second", "cut 1"), (other, "second", "cut 0"), (one, "first", "breaks 2"), (other, "first", "cut 3"),
            (one, "rests", "2 0"), (other, "rests", "none"), (one, "far 2 1", "1/3"), (other, "far 2 3", "37/256"),
            (one, "carry 3 2 1 1", "6"), (other, "add 5 5", "10 1"), (one, "pack 61", NoPack),
            (other, "riffle p 0", NoRiffle), (one, "undo", "0 1 2"), (other, "order", "3 2 1 0"),
            (one, "undo", NoRiffle), (other, "undo", "0 1 2 3"), (one, "order", "0 1 2"), (one, "whole", "p 0 0 0"),
        ]:
            self.assertEqual(answer(desk, row), wanted, row)


class AsTheModulesTest(unittest.TestCase):
    def cut(self, told):
        return ("cut " if told[0] else "breaks ") + str(told[1])

    def compare(self, desk, pack):
        order = pack.order()
        self.assertEqual(desk.say("order"), written(order))
        self.assertEqual(desk.say("falls"), str(falls(order)))
        self.assertEqual(desk.say("runs"), str(runs(order)))
        self.assertEqual(desk.say("second"), self.cut(by_second(order)))
        self.assertEqual(desk.say("first"), self.cut(by_first(order)))
        found = rests(order)
        self.assertEqual(desk.say("rests"), "none" if found is None else f"{found[0]} {found[1]}")

    def compare_whole(self, desk, pack):
        try:
            marks, word = pack.whole()
        except TooMany:
            self.assertIs(answer(desk, "whole"), TooMany)
        else:
            self.assertEqual(desk.say("whole"), signs(marks) + " " + written(word))

    def compare_ways(self, desk, order, marks):
        ways = how_many(order, marks)
        self.assertEqual(desk.say("ways " + signs(marks)), str(ways))
        for number in {0, ways // 2, ways - 1, ways, 10 ** 12 - 1}:
            if 0 <= number < 10 ** 12:
                wanted = written(way(order, marks, number)) if number < ways else NoWay
                self.assertEqual(answer(desk, f"way {signs(marks)} {number}"), wanted)

    def test_many_riffles(self):
        for n in [1, 2, 5, 60]:
            desk = Desk()
            pack = Pack(n)
            desk.say(f"pack {n}")
            count = 0
            for heaps in [1, 2, 3, 20, 400]:
                for marks in sample_marks(heaps):
                    for word in sample_words(heaps, n)[::2]:
                        told = desk.say(f"riffle {signs(marks)} {written(word)}")
                        self.assertEqual(told, written(pack.riffle(marks, word)))
                        self.compare(desk, pack)
                        self.compare_whole(desk, pack)
                        count += 1
                    self.compare_ways(desk, pack.order(), marks)
            for step in range(count):
                self.assertEqual(desk.say("undo"), written(pack.undo()))
            self.assertIs(answer(desk, "undo"), NoRiffle)


class NoTextTest(unittest.TestCase):
    def refuse(self, rows, refusal=NoText, asked=None):
        for desk in asked or desks():
            before = told_by(desk)
            for row in rows:
                check_refused(self, refusal, desk.say, row)
            self.assertEqual(told_by(desk), before)

    def test_good_rows_are_good(self):
        for row in GOOD_ROWS:
            self.assertIs(answer(desks()[2], row).__class__, str, row)

    def test_rows_that_are_none(self):
        self.refuse(OTHER_ROWS)

    def test_a_blank_more(self):
        rows = []
        for row in GOOD_ROWS:
            rows.extend([" " + row, row + " ", "  " + row, row + "  ", " " + row + " "])
            rows.extend([row[:place] + " " + row[place:] for place, sign in enumerate(row) if sign == " "])
        self.refuse(rows)

    def test_a_word_more_or_fewer(self):
        rows = []
        for row in GOOD_ROWS:
            words = row.split(" ")
            if words[0] != "riffle" and words[0] != "add":
                rows.extend([row + " 0", row + " 1", row + " p", row + " order"])
            if len(words) > 1 and words[0] != "riffle" and row != "add 95 7 8":
                rows.append(" ".join(words[:-1]))
        self.refuse(rows)

    def test_another_word_or_great_letters(self):
        rows = []
        for row in GOOD_ROWS:
            first, blank, others = row.partition(" ")
            for word in ["", "x", "say", first + "s", first[:-1], first.upper(), first.capitalize(), first + "."]:
                if (word, blank) != ("way", " ") and (word, blank) != ("ways", " "):
                    rows.append(word + blank + others)
        self.refuse(rows + ["riffle PT 1 0 1", "riffle pT 1 0 1", "ways P", "way Pt 0"])

    def test_badly_written_numbers(self):
        rows = []
        for word in BAD_NUMBERS:
            rows.extend([f"pack {word}", f"riffle p {word}", f"riffle pt 1 {word} 1", f"riffle pt {word} 0 1",
                         f"riffle pt 1 0 {word}", f"way pt {word}", f"carry {word} 2 0 0", f"carry 3 {word} 0 0",
                         f"carry 3 2 {word} 0", f"carry 3 2 0 {word}", f"add {word}", f"add {word} 1", f"add 1 {word}",
                         f"add 1 {word} 1", f"far {word} 1", f"far 2 {word}"])
        # Two figures with a blank between are two numbers, which some rows take.
        good = ["riffle p 1 2", "riffle pt 1 1 2 1", "riffle pt 1 2 0 1", "riffle pt 1 0 1 2", "add 1 2", "add 1 2 1",
                "add 1 1 2", "add 1 1 2 1"]
        self.refuse([row for row in rows if row not in good and len(row) <= 2000])

    def test_badly_written_marks(self):
        rows = []
        for word in BAD_MARKS:
            rows.extend([f"riffle {word}", f"riffle {word} 0", f"riffle {word} 0 0 0", f"ways {word}", f"way {word} 0"])
        self.refuse([row for row in rows if len(row) <= 2000])

    def test_words_in_the_others_places(self):
        self.refuse(["riffle 0", "riffle 0 p", "riffle 0 0 0", "riffle p p", "riffle p 0 p 0", "ways 1", "ways 0",
                     "way 0 p", "way 0 0", "way p p", "pack p", "carry p 2 0 0", "carry 3 2 p 0", "add p", "add 1 t",
                     "far p 1", "far 2 p"])

    def test_carry_beyond_its_bounds(self):
        rows = ["carry 0 2 0 0", "carry 0 0 0 0", f"carry {MOST} 2 0 0", f"carry {MOST} {MOST} {MOST} {MOST}"]
        for m in range(1, 13):
            for beyond in [m, m + 1, 12, 13, MOST]:
                rows.extend([f"carry {m} 2 {beyond} 0", f"carry {m} 2 0 {beyond}", f"carry {m} 2 {beyond} {beyond}"])
            rows.extend([f"carry {m} 0 0 0", f"carry {m} 0 {m - 1} {m - 1}"])
        for m in [13, 14, 20, 60, 100]:
            rows.extend([f"carry {m} 2 0 0", f"carry {m} 1 {m - 1} 0", f"carry {m} {MOST} 0 {m - 1}"])
        self.refuse(rows)

    def test_more_than_sixty_numbers_to_add(self):
        self.refuse(["add" + " 1" * 61, "add" + " 0" * 61, "add" + f" {MOST}" * 61, "add" + " 1" * 998])

    def test_far_beyond_its_bounds(self):
        self.refuse(["far 0 0", "far 0 1", "far 0 20", "far 61 0", "far 61 1", "far 61 20", "far 62 1", "far 100 1",
                     f"far {MOST} 0", "far 1 21", "far 2 21", "far 60 21", "far 1 22", f"far 2 {MOST}", "far 0 21",
                     "far 61 21", f"far {MOST} {MOST}"])

    def test_far_with_too_many_cards(self):
        for n in [21, 22, 52, 59, 60]:
            desk = Desk()
            desk.say(f"pack {n}")
            self.refuse(["far 2 1", "far 1 0", "far 60 20", "far 1 1", "far 2 0"], NoText, [desk])

    def test_ahead_of_all_else(self):
        # Well written, each of these would be refused for something else.
        desk = Desk()
        for row in ["pack 0", "pack 61", "undo", "riffle p", "riffle p 1", "riffle p 0 0", "way t 1"]:
            self.assertIsNot(answer(desk, row), NoText, row)
            self.assertIsNot(answer(desk, row).__class__, str, row)
        self.refuse(["pack 00", "pack 061", "pack 61 ", " pack 61", "pack 61 0", "undo ", " undo", "undo 0",
                     "riffle p ", "riffle P", "riffle p 1 x", "riffle p 1 01", "riffle p 0 0 ", "riffle x 1",
                     "way t 01", "way T 1", "way t 1 ", "way t 1 0"])
        many = desks()[4]
        self.assertIs(answer(many, "whole"), TooMany)
        self.refuse(["whole ", " whole", "whole 0", "WHOLE"], NoText, [many])

    def test_long_rows(self):
        self.refuse(["x" * 2000, " " * 2000, "order" * 400, "order " * 333, "undo" + " " * 1996, "0 " * 1000,
                     "riffle " + "p" * 1993, "pack " + "1" * 1995, "riffle p" + " 0" * 995 + " 0x"])


class RefusedTest(unittest.TestCase):
    def refuse(self, desk, refusal, row):
        before = told_by(desk)
        check_refused(self, refusal, desk.say, row)
        self.assertEqual(told_by(desk), before, row)

    def test_no_pack(self):
        for desk in desks():
            for n in ["0", "61", "62", "100", "400", MOST]:
                self.refuse(desk, NoPack, f"pack {n}")

    def test_no_riffle(self):
        for desk in desks():
            n = len(desk.say("order").split(" "))
            for heaps in [1, 2, 400]:
                marks = signs(mixed_marks(heaps))
                good = [str(part) for part in mixed_word(heaps, n)]
                words = [[], good[1:], good + ["0"], good * 2, good[1:] + [str(heaps)], [str(heaps)] + good[1:],
                         good[1:] + [MOST], [MOST] + good[1:], good[1:] + [str(heaps + 1)], ["0"] * 700]
                for word in words:
                    self.refuse(desk, NoRiffle, " ".join(["riffle", marks] + word))

    def test_nothing_to_undo(self):
        for n in [1, 3, 60]:
            desk = Desk()
            self.refuse(desk, NoRiffle, "undo")
            desk.say(f"pack {n}")
            self.refuse(desk, NoRiffle, "undo")
            desk.say("riffle t" + " 0" * n)
            desk.say("undo")
            self.refuse(desk, NoRiffle, "undo")
            desk.say("riffle t" + " 0" * n)
            desk.say(f"pack {n}")
            self.refuse(desk, NoRiffle, "undo")

    def test_no_way(self):
        for desk in desks():
            for marks in ["p", "t", "pt", "tp", "ptp"]:
                ways = int(desk.say(f"ways {marks}"))
                for number in [ways, ways + 1, ways + 100, 10 ** 12 - 1]:
                    self.refuse(desk, NoWay, f"way {marks} {number}")

    def test_too_many_heaps(self):
        for counts in [[401 // 3 + 1, 3], [2, 201], [20, 21], [400, 2], [400, 400], [2] * 9]:
            desk = Desk()
            desk.say("pack 5")
            for heaps in counts:
                desk.say(f"riffle {signs(mixed_marks(heaps))} {written(mixed_word(heaps, 5))}")
            self.refuse(desk, TooMany, "whole")
            desk.say("undo")
            self.assertIs(desk.say("whole").__class__, str)

    def test_just_four_hundred_heaps(self):
        desk = Desk()
        desk.say("pack 3")
        desk.say("riffle " + "t" * 20 + " 19 0 7")
        desk.say("riffle " + "t" * 20 + " 3 0 0")
        marks, blank, word = desk.say("whole").partition(" ")
        self.assertEqual(marks, "p" * 400)
        self.assertEqual(len(word.split(" ")), 3)
        order = desk.say("order")
        self.assertEqual(desk.say("pack 3"), "0 1 2")
        self.assertEqual(desk.say(f"riffle {marks} {word}"), order)


if __name__ == "__main__":
    unittest.main()
