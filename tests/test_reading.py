"""Texts of ledgers, written and read back; rows and words left out, put in, exchanged."""

import random
import unittest

from filledrow.errors import BadText, FillError, NoChange
from filledrow.fillings import Filling
from filledrow.kinds import ascending
from filledrow.ledger import Ledger
from filledrow.orders import Order
from filledrow.reading import read_ledger
from filledrow.sides import Side
from filledrow.tables import Table
from filledrow.texts import ledger_text
from tests.support import ANY, LONG, NO_STRINGS, SIX_BY_SIX, Case
from tests.test_ledger import ORDER, TABLE, do, random_deed, random_ledger
from tests.test_texts import JUNK

HEADS = ["table", "order", "sources", "uses", "filling"]
KINDS = [Table, Order, Side, Side, Filling]
TEXT = "table x y : a 1 2 ; b 0 3\norder b y ; a x ; a y\nsources a 5\nuses x 3 y 4\nfilling a x 1 ; a y 4"


def refused(told, at):
    """Whether a part of a ledger does not go with those ahead of it."""
    part, table = told[at], told[0]
    if at == 1:
        return ascending(part.pairs) != table.pairs
    if at in (2, 3):
        return not set(part.names) <= set(table.sources if at == 2 else table.uses)
    return at == 4 and not part.fits(told[2], told[3])


def wanted(text):
    """The row and the word that are told of a text, None if it can be read; by what the classes tell of each row."""
    rows, told = text.split("\n"), []
    for at, (head, kind) in enumerate(zip(HEADS, KINDS)):
        if at == len(rows):
            return (at, 0)
        words = rows[at].split(" ")
        if words[0] != head:
            return (at, 0)
        if len(words) == 1:
            return (at, 1)
        try:
            told.append(kind.read(" ".join(words[1:])))
        except BadText as error:
            return (at, error.word + 1)
        except FillError:
            return (at, 0)
        if refused(told, at):
            return (at, 0)
    return None if len(rows) == 5 else (5, 0)


class Writing(Case):
    def test_text(self):
        ledger = Ledger(TABLE, ORDER)
        self.assertEqual(ledger_text(ledger=ledger).split("\n"), [
            "table w x y z : a 0 3 2 0 ; b 0 0 1 4 ; c 0 0 0 0", "order a x ; b z ; a y ; b y", "sources -", "uses -", "filling -"])
        ledger.credit("a", 2)
        ledger.bill("w", 1)
        ledger["a", "w"] = 1
        ledger.bill("x", LONG)
        ledger.way = ORDER[::-1]
        self.assertEqual(ledger_text(ledger).split("\n")[1:], [
            "order b y ; a y ; b z ; a x", "sources a 2", f"uses w 1 x {LONG}", "filling a w 1 ; a x 1"])
        self.assertEqual(ledger_text(Ledger(Table({}), Order())), "table :\norder -\nsources -\nuses -\nfilling -")

    def test_read_back(self):
        chance = random.Random(1)
        for _ in range(120):
            ledger = random_ledger(chance)
            for _ in range(8):
                do(ledger, *random_deed(chance, ledger, chance.choice([4, LONG])))
            text = ledger_text(ledger)
            found = read_ledger(text=text)
            self.assertEqual([found, type(found), len(found), ledger_text(found)], [ledger, Ledger, 0, text])
            self.told(NoChange(), found.undo)
            word, told = random_deed(chance, ledger)
            self.assertEqual([do(found, word, told), found], [do(ledger, word, told), ledger])

    def test_any_size(self):
        ledger = Ledger(TABLE * 10 ** 4000, ORDER)
        for _ in range(30):
            ledger.credit("a", 10 ** 30 - 1)
        self.assertEqual(read_ledger(ledger_text(ledger)), ledger)
        table = Table.flat({a: list("uvwxyz") for a in "abcdef"})
        self.assertEqual(read_ledger(ledger_text(Ledger(table, Order(*SIX_BY_SIX[::-1])))).way, Order(*SIX_BY_SIX[::-1]))


class Reading(Case):
    def checks(self, text):
        told = wanted(text)
        if told is None:
            self.assertEqual(ledger_text(read_ledger(text)), text)
        else:
            self.told(BadText(*told), read_ledger, text)
        return told

    def test_rows_left_out_put_in_exchanged(self):
        rows = TEXT.split("\n")
        told = set()
        for at in range(6):
            for other in [*rows, "", "table", "filling -", "sources -", "a", "table :", "order -", " ", "x 1"]:
                told.add(self.checks("\n".join(rows[:at] + [other] + rows[at:])))
                told.add(self.checks("\n".join(rows[:at] + [other] + rows[at + 1:])))
            told.add(self.checks("\n".join(rows[:at] + rows[at + 1:])))
            told.add(self.checks("\n".join(rows[:at])))
            for other in range(5):
                if at < 5:
                    row = list(rows)
                    row[at], row[other] = row[other], row[at]
                    told.add(self.checks("\n".join(row)))
        self.assertLessEqual({(k, 0) for k in range(6)} | {None}, told)

    def test_words_left_out_put_in_exchanged(self):
        rows = TEXT.split("\n")
        kinds = set()
        for at, row in enumerate(rows):
            words = row.split(" ")
            changed = [words]
            for k in range(len(words) + 1):
                changed.append(words[:k])
                changed.append(words[:k] + words[k + 1:])
                changed.append(words[:k] + words[k:k + 2][::-1] + words[k + 2:])
                changed.append(words[:k] + words[k:k + 1] + words[k:])
                for word in [*JUNK, "a", "b", "x", "y", "q", "1", "9"]:
                    if "\n" not in word:
                        changed.append(words[:k] + [word] + words[k:])
                        changed.append(words[:k] + [word] + words[k + 1:])
            for told in changed:
                text = "\n".join(rows[:at] + [" ".join(told)] + rows[at + 1:])
                kinds.add(self.checks(text))
                # What stands behind a wrong row plays no part.
                error = wanted(text)
                if error is not None and error[0] == at:
                    self.assertEqual(self.checks("\n".join(rows[:at] + [" ".join(told)])), error)
                    self.assertEqual(self.checks("\n".join(rows[:at] + [" ".join(told)] + ["-"] * 7)), error)
        self.assertGreater(len(kinds), 40)

    def test_rows_and_words(self):
        head = "table x : a 1 ; b 1\norder a x ; b x\n"
        for text, line, word in [
                ("", 0, 0), ("table", 0, 1), ("table ", 0, 1), ("tables :", 0, 0), (" table :", 0, 0), ("table x", 0, 2), ("table x : a", 0, 4), ("Table :", 0, 0),
                ("table x : a 1", 1, 0), ("table x : a 1\n", 1, 0), ("table x : a 1\norder", 1, 1), ("table x : a 1\norder a", 1, 2), ("table x : a 1\norder -", 1, 0),
                ("table x : a 1\norder a x ; b x", 1, 0), ("table x : a 1\norder a x ; a x", 1, 0), ("table x : a 1\norder b x", 1, 0),
                ("table : ; a", 0, 2), ("table t u v w x y z :", 0, 0), ("table t u v w x y z :\norder", 0, 0),
                (head + "sources b 1 a 1", 2, 3), (head + "sources c 1", 2, 0), (head + "sources x 1", 2, 0), (head + "sources a 1 c 1\nuses y", 2, 0), (head[:-1], 2, 0),
                (head + "sources a 1\nuses y 1", 3, 0), (head + "sources a 1\nuses a 1", 3, 0), (head + "sources a 1\nuses x 0", 3, 2), (head + "sources a 1", 3, 0),
                (head + "sources a 1\nuses x 1", 4, 0), (head + "sources a 1\nuses x 1\nfilling a x", 4, 3), (head + "sources a 1\nuses x 1\nfilling a x 2", 4, 0),
                (head + "sources a 1\nuses x 1\nfilling b x 1", 4, 0), (head + "sources a 1\nuses x 1\nfilling a y 1", 4, 0), (head + "sources a 1\nuses x 1\nfilling c x 1", 4, 0),
                (head + "sources a 1\nuses x 1\nfilling a x 1 ;", 4, 5), (head + "sources a 1\nuses x 1\nfilling a x 1\n", 5, 0),
                (head + "sources a 1\nuses x 1\nfilling a x 1\nfilling a x 1", 5, 0), (head + "sources a 1\nuses x 1\nfilling a x 2\n", 4, 0)]:
            self.told(BadText(line, word), read_ledger, text)
        self.assertEqual(str(read_ledger(head + "sources a 1\nuses x 1\nfilling a x 1").filling), "a x 1")

    def test_pairs_out_of_scope_are_let(self):
        found = read_ledger("table x y : a 0 1\norder a y\nsources a 3\nuses x 1 y 2\nfilling a x 1")
        self.assertEqual([str(found.filling), str(found.free), str(found.open_now)], ["a x 1", "a 2", "y 2"])
        self.assertEqual([str(found.bill("y", 0)), str(found.filling)], ["a y 2", "a x 1 ; a y 2"])

    def test_other_values(self):
        for value in NO_STRINGS:
            self.told(BadText(0, 0), read_ledger, value)
        for value in ANY:
            if isinstance(value, str):
                self.told(BadText(0, 0), read_ledger, value)


if __name__ == "__main__":
    unittest.main()
