"""Fillings: making them, asking them, their signs, their texts."""

import unittest

from filledrow.errors import BadAmount, BadFilling, BadPair, BadSide, BadTable, BadText, Lacking
from filledrow.fillings import Filling
from filledrow.sides import Side
from filledrow.tables import Table
from tests.support import ANY, LONG, NO_AMOUNTS, NO_COUNTS, NO_DICTS, NO_PAIRS, NO_STRINGS, Case, can_be_key
from tests.support import is_pair_like, others

SIGNS = [
    lambda one, other: one + other, lambda one, other: one - other, lambda one, other: one & other,
    lambda one, other: one | other, lambda one, other: one <= other, lambda one, other: one < other,
]
AX, AY, BX, BY = ("a", "x"), ("a", "y"), ("b", "x"), ("b", "y")


class Making(Case):
    def test_attributes(self):
        put = Filling({BX: 2, AY: LONG, AX: 1, BY: 0})
        self.assertEqual(put.pairs, (AX, AY, BX))
        self.assertEqual([put.by_source, put.by_use], [Side(a=LONG + 1, b=2), Side(x=3, y=LONG)])
        self.assertEqual([put.total, len(put), list(put)], [LONG + 3, 3, [(AX, 1), (AY, LONG), (BX, 2)]])
        self.assertEqual([Filling({}).pairs, Filling({}).total, bool(Filling({})), bool(put)], [(), 0, False, True])
        self.assertEqual(Filling(amounts={AX: 0}), Filling({}))

    def test_a_name_can_be_both(self):
        put = Filling({("a", "b"): 1, ("b", "a"): 2, ("a", "a"): 4})
        self.assertEqual([str(put.by_source), str(put.by_use)], ["a 5 b 2", "a 6 b 1"])

    def test_wrong(self):
        for value in NO_DICTS:
            self.told(BadFilling("amounts"), Filling, value)
        for value in NO_PAIRS:
            if can_be_key(value):
                self.told(BadPair(value), Filling, {BX: -1, value: 1, 6: 1})
        for value in NO_AMOUNTS:
            self.told(BadAmount(value), Filling, {BX: 1, BY: value, AX: -5})

    def test_later_changes_have_no_effect(self):
        amounts = {AX: 1}
        put = Filling(amounts)
        amounts[AX] = 5
        amounts[BX] = 1
        self.assertEqual([str(put), str(put.by_source), amounts], ["a x 1", "a 1", {AX: 5, BX: 1}])


class Asking(Case):
    def test_amounts(self):
        put = Filling({AX: 3, BY: 1})
        self.assertEqual([put["a", "x"], put[BY], put[AY]], [3, 1, 0])
        for value in ANY:
            self.assertEqual(put[value], 3 if is_pair_like(value) else 0)
            self.assertIs(value in put, is_pair_like(value))
        self.assertNotIn(AY, put)

    def test_equal(self):
        self.assertEqual(Filling({AX: 1, AY: 0}), Filling({AX: 1}))
        self.assertNotEqual(Filling({AX: 1}), Filling({AX: 2}))
        self.assertNotEqual(Filling({AX: 1}), Filling({AY: 1}))
        for value in ANY:
            self.assertIs(Filling({BY: 1}) == value, False)

    def test_worth(self):
        put = Filling({AX: 3, BY: LONG})
        self.assertEqual(put.worth_in(table=Table({"a": {"x": 5, "y": 100}, "b": {"y": 2}})), 15 + 2 * LONG)
        self.assertEqual([put.worth_in(Table({"c": {"x": 1}})), Filling({}).worth_in(Table({}))], [0, 0])
        for value in others(Table):
            self.told(BadTable("table"), put.worth_in, value)

    def test_fits_and_uses_up(self):
        put = Filling({AX: 3, BX: 1, BY: 2})
        for sources, uses, wanted in [
                (Side(a=3, b=3), Side(x=4, y=2), [True, True]), (Side(a=4, b=3), Side(x=4, y=2), [True, False]),
                (Side(a=3, b=3), Side(x=4, y=2, z=1), [True, False]), (Side(a=2, b=9), Side(x=9, y=9), [False, False]),
                (Side(a=9, b=9), Side(x=3, y=9), [False, False]), (Side(a=9), Side(x=9, y=9), [False, False])]:
            self.assertEqual([put.fits(sources, uses), put.uses_up(sources=sources, uses=uses)], wanted)
        for value in others(Side):
            for call in (put.fits, put.uses_up):
                self.told(BadSide("sources"), call, value, 5)
                self.told(BadSide("uses"), call, Side(), value)


class Signs(Case):
    def test_pair_by_pair(self):
        one, other = Filling({AX: 7, AY: 2}), Filling({AY: 5, BX: 1})
        self.assertEqual([str(one + other), str(one & other), str(one | other)], [
            "a x 7 ; a y 7 ; b x 1", "a y 2", "a x 7 ; a y 5 ; b x 1"])
        self.assertEqual([str(one - Filling({AX: 7, AY: 1})), one - one, str(~other)], ["a y 1", Filling({}), "x b 1 ; y a 5"])

    def test_lacking(self):
        self.told(Lacking(AY), lambda: Filling({AX: 7, AY: 2}) - Filling({BY: 1, BX: 1, AY: 3}))
        self.told(Lacking(BX), lambda: Filling({AX: 7, AY: 2}) - Filling({BY: 1, BX: 1, AY: 2}))

    def test_other_kinds(self):
        for sign in SIGNS:
            for value in others(Filling):
                self.told(BadFilling("other"), sign, Filling({AX: 1}), value)

    def test_times(self):
        put = Filling({AX: 2, BX: LONG})
        self.assertEqual([put * 3, 3 * put, put * 0], [Filling({AX: 6, BX: 3 * LONG})] * 2 + [Filling({})])
        for value in NO_AMOUNTS:
            self.told(BadAmount(value), lambda: put * value)
        for value in [None, True, "ab", -1, (1,), [1], {}]:
            self.told(BadAmount(value), lambda: value * put)

    def test_quotients_and_rests(self):
        put = Filling({AX: 7, BX: 2})
        self.assertEqual([put // 3, put % 3, put // 1, put % 1], [
            Filling({AX: 2}), Filling({AX: 1, BX: 2}), put, Filling({})])
        for value in NO_COUNTS:
            self.told(BadAmount(value), lambda: put // value)
            self.told(BadAmount(value), lambda: put % value)

    def test_order(self):
        put = Filling({AX: 2, BX: 1})
        more = Filling({AX: 2, BX: 2})
        self.assertEqual([put <= put, put < put, put <= more, put < more, more <= put], [True, False, True, True, False])
        self.assertEqual([Filling({}) < put, put <= Filling({AX: 9}), put >= Filling({AX: 1})], [True, False, True])

    def test_in_place(self):
        one, other = Filling({AX: 7, BX: 2}), Filling({BX: 1})
        put = one
        put += other
        put -= Filling({AX: 1})
        put *= 3
        put //= 2
        put %= 5
        self.assertEqual([str(put), str(one), str(other)], ["a x 4 ; b x 4", "a x 7 ; b x 2", "b x 1"])
        put &= Filling({AX: 1, BX: 9})
        put |= Filling({BY: 1})
        self.assertEqual(str(put), "a x 1 ; b x 4 ; b y 1")


class Texts(Case):
    def test_read(self):
        for put in [Filling({}), Filling({AX: 1}), Filling({AX: 1, ("ab", "x"): LONG, AY: 20, ("a", "zzzzzzzz"): 3})]:
            self.assertEqual(Filling.read(text=str(put)), put)
        self.assertEqual([str(Filling({})), str(Filling({BX: 20, AX: 3}))], ["-", "a x 3 ; b x 20"])

    def test_long_numbers(self):
        put = Filling({AX: 10 ** 29})
        for _ in range(200):
            put = put * 10 ** 29
        self.assertEqual(str(put), "a x 1" + "0" * 29 * 201)
        self.assertEqual(Filling.read(str(put)), put)

    def test_what_cannot_stand(self):
        for value in NO_STRINGS:
            self.told(BadText(0, 0), Filling.read, value)
        for text, word in [
                ("", 0), ("- -", 1), ("a", 1), ("a x", 2), ("a x 0", 2), ("a x 01", 2), ("a x 1 ;", 4), ("a x 1 b", 3),
                ("a x 1 ; a", 5), ("a x 1 ; a x 1", 5), ("a y 1 ; a x 1", 5), ("b x 1 ; a y 1", 4), ("a x 1 ; a y", 6),
                ("a x 1 ;  b y 1", 4), ("a x 1 b y 1", 3), ("none x 1", 0), ("a self 1", 1), ("a x 1 ; -", 4), ("x 1", 1),
                ("a zzzzzzzz 1 ; a a 1", 5), ("a zzzzzzzz 1 ; a", 5), ("a x y", 2), ("a abcdefghi 1", 1), ("a x 1\n", 2)]:
            self.told(BadText(0, word), Filling.read, text)


if __name__ == "__main__":
    unittest.main()
