"""Texts with words left out, put in, exchanged and doubled, against all texts that can be gone on with.

Here a text can be gone on with if it begins a text out of a small world of names and numbers. The words
that are put in leave out the greatest name of that world, so something can always follow.
"""

import itertools
import unittest

from filledrow.bars import Bars
from filledrow.errors import BadText, FillError
from filledrow.fillings import Filling
from filledrow.orders import Order
from filledrow.sides import Side
from filledrow.tables import Table
from tests.support import ANY, NO_STRINGS, SIX_BY_SIX, THIRTY_SEVEN, Case
from tests.test_bars import all_bars

JUNK = ["", "none", "self", "A", "abcdefghi", "01", "-1", "+1", "1.0", "-", ";", ":", "a\n", "0"]
NAMES = ["a", "b", "z"]
PAIRS = tuple(itertools.product(NAMES, NAMES))


def heads(texts):
    """All beginnings of some texts, each a tuple of words."""
    return {tuple(words[:many]) for words in texts for many in range(1, len(words) + 1)}


def changed(text, words):
    """A text with each word left out, doubled, exchanged, put in, and cut short behind it; and in its own shape."""
    told = text.split(" ")
    rows = [told]
    for at in range(len(told)):
        rows.append(told[:at])
        rows.append(told[:at] + told[at + 1:])
        rows.append(told[:at] + [told[at]] + told[at:])
        rows.append(told[:at] + told[at:at + 2][::-1] + told[at + 2:])
        rows.extend(told[:at] + [word] + told[at:] for word in words)
        rows.extend(told[:at] + [word] + told[at + 1:] for word in words)
    rows.extend(told + [word] for word in words)
    return [" ".join(row) for row in rows]


def joined_by(rows, sign):
    """Rows of words with a sign between them."""
    words = list(rows[0]) if rows else []
    for row in rows[1:]:
        words.extend([sign, *row])
    return tuple(words)


def side_texts():
    yield ("-",)
    for many in range(1, 4):
        for some in itertools.combinations(NAMES, many):
            for numbers in itertools.product(["1", "10"], repeat=many):
                yield tuple(word for row in zip(some, numbers) for word in row)


def filling_texts():
    yield ("-",)
    for many in range(1, 4):
        for some in itertools.combinations(PAIRS, many):
            for numbers in itertools.product(["1", "10"], repeat=many):
                yield joined_by([(*pair, number) for pair, number in zip(some, numbers)], ";")


def order_texts():
    yield ("-",)
    for many in range(1, 4):
        for some in itertools.product(PAIRS, repeat=many):
            yield joined_by(some, ";")


def table_texts():
    for many in range(3):
        for uses in itertools.combinations(NAMES, many):
            yield (*uses, ":")
            for rows in range(1, 4):
                for sources in itertools.combinations(NAMES, rows):
                    for worths in itertools.product(itertools.product(["0", "1", "10"], repeat=many), repeat=rows):
                        told = [(source, *row) for source, row in zip(sources, worths)]
                        yield (*uses, ":", *joined_by(told, ";"))
    yield ("a", "b", "z", ":")


def pair_words(pair):
    return ("none",) if pair is None else pair


def bars_texts():
    """Of up to two pairs with up to three bars, of three with up to two, of four; a sign can stand behind each."""
    yield ("-", ";")
    for many in range(1, 5):
        for pairs in itertools.combinations(PAIRS, many):
            head = tuple(word for pair in pairs for word in pair)
            for count in range((4, 4, 3, 1)[many - 1]):
                for bars in itertools.combinations(all_bars(pairs), count):
                    rows = [tuple(word for pair in bar for word in pair_words(pair)) for bar in bars]
                    yield (*joined_by([head, *rows], ";"), ";")


class Changed(Case):
    def go_through(self, kind, texts, starts, words, whole):
        """Reads all changed texts; whole tells whether words that can all stand are a whole text."""
        known = heads(texts)
        for start in starts:
            for text in changed(start, words):
                told = text.split(" ")
                wrong = [at for at in range(len(told)) if tuple(told[:at + 1]) not in known]
                if wrong:
                    self.told(BadText(0, wrong[0]), kind.read, text)
                elif not whole(told):
                    self.told(BadText(0, len(told)), kind.read, text)
                else:
                    self.reads(kind, text)

    def reads(self, kind, text):
        """A text that is read gives an object whose text it is, or the class refuses it."""
        try:
            self.assertEqual(str(kind.read(text)), text)
        except FillError as error:
            self.assertIs(kind, Order)
            self.assertEqual(repr(error), "BadOrder('twice')")

    def test_sides(self):
        words = [*JUNK, "a", "b", "1", "10"]
        texts = list(side_texts())
        self.go_through(Side, texts, ["-", "a 1", "a 10 b 1"], words, lambda told: tuple(told) in texts)

    def test_fillings(self):
        words = [*JUNK, "a", "b", "1", "10"]
        texts = set(filling_texts())
        self.go_through(Filling, texts, ["-", "a a 1", "a b 10 ; b a 1"], words, lambda told: tuple(told) in texts)

    def test_orders(self):
        words = [*JUNK, "a", "b", "1"]
        texts = set(order_texts())
        self.go_through(Order, texts, ["-", "b a", "b a ; a b"], words, lambda told: tuple(told) in texts)

    def test_tables(self):
        words = [*JUNK, "a", "b", "1", "10"]
        texts = set(table_texts())
        self.go_through(Table, texts, [":", "a :", ": a", "a b :", "a b : a 1 10 ; b 0 1", ": a ; b"], words,
                        lambda told: tuple(told) in texts)

    def test_bars(self):
        words = [*JUNK, "a", "b"]
        texts = set(bars_texts())
        self.go_through(Bars, texts, ["-", "a a", "a a b a", "a a b a ; a a b a none", "a a b a ; a a b a none ; b a none none",
                                      "a b b a b b ; a b b a b b", "a b b a b b ; a b none none"], words,
                        lambda told: (*told, ";") in texts or told == ["-"])


class BarsRead(Case):
    def test_read(self):
        for bars in [Bars([]), Bars([("a", "x")]), Bars.of(PAIRS[:3], all_bars(PAIRS[:3])), Bars(SIX_BY_SIX),
                     Bars.best(Table({"a": {"x": 9, "y": 8}, "b": {"x": 8, "y": 1}}))]:
            self.assertEqual(Bars.read(text=str(bars)), bars)
        self.assertEqual(str(Bars([])), "-")
        bars = Bars.of(SIX_BY_SIX[::2], all_bars(SIX_BY_SIX[::2]))
        self.assertEqual(Bars.read(str(bars)), bars)

    def test_thirty_seven_pairs(self):
        self.told(BadText(0, 72), Bars.read, " ".join(f"{a} {x}" for a, x in THIRTY_SEVEN))
        self.told(BadText(0, 73), Bars.read, " ".join(f"{a} {x}" for a, x in SIX_BY_SIX) + " ;")

    def test_a_bar_behind_all(self):
        for text, word in [
                ("- ;", 2), ("- ; a", 2), ("- ; none", 2), ("a x ;", 3), ("a x ; a x none none ;", 8), ("a x ; a x none", 6),
                ("a x ; a x none none ; a", 8), ("a x a y ; a y none none ; a y", 10), ("a x a y ; a y a x a x", 9),
                ("a x a y ; a y a y", 8), ("a x a y ; a y none a x", 8), ("a x a y b x ; b x a y a x", 11),
                ("a x a y ; a x a y none ; a x a y", 13), ("a x a y ; a x none none ; a x", 11), ("a x a y ; b x", 5),
                ("a x a y ; a z", 6), ("a x a y b x ; a x a y b x ; a x a y b x", 18),
                ("a x a y b x ; a x b x none ; a x a y", 15), ("a x a y ; none", 5), ("a x a y ; a x a y none none", 10), ("a y a x", 3), ("a x a x", 3)]:
            self.told(BadText(0, word), Bars.read, text)

    def test_the_greatest_name(self):
        self.told(BadText(0, 2), Bars.read, "a zzzzzzzz a b")
        self.assertEqual(len(Bars.read("a zzzzzzzz b a").pairs), 2)


class NoStrings(Case):
    def test_no_strings(self):
        for kind in (Table, Side, Filling, Order, Bars):
            for value in NO_STRINGS:
                self.told(BadText(0, 0), kind.read, value)
            for value in ANY:
                if isinstance(value, str) and value not in ("-", "a b"):
                    self.assertRaises(BadText, kind.read, value)


if __name__ == "__main__":
    unittest.main()
