"""Orders: making them, asking them, their signs, their texts, the filling by them."""

import unittest

from filledrow.errors import BadOrder, BadPair, BadSide, BadTable, BadText, NoPair, TooMany
from filledrow.fillings import Filling
from filledrow.orders import Order
from filledrow.sides import Side
from filledrow.tables import Table
from tests.support import ANY, FOUR, LONG, NO_PAIRS, NO_ROWS, NO_STRINGS, SIX_BY_SIX, THIRTY_SEVEN, Case, others
from tests.support import is_pair_like

SIGNS = [
    lambda one, other: one + other, lambda one, other: one - other, lambda one, other: one & other,
    lambda one, other: one <= other,
]
AX, AY, BX, BY = FOUR
NO_INDEXES = [value for value in ANY if type(value) is not int]


class Making(Case):
    def test_attributes(self):
        order = Order(BY, AX, BX)
        self.assertEqual([order.pairs, list(order), len(order), bool(order), bool(Order())], [
            (BY, AX, BX), [BY, AX, BX], 3, True, False])
        self.assertEqual([Order.of([BY, AX, BX]), Order.of(pairs=(BY, AX, BX))], [order, order])
        self.assertEqual(len(Order(*SIX_BY_SIX)), 36)

    def test_wrong(self):
        for value in NO_PAIRS:
            self.told(BadPair(value), Order, BX, value, BX, 5)
            self.told(BadPair(value), Order.of, [BX, value, BX, 5])
        for value in NO_ROWS:
            self.told(BadOrder("pairs"), Order.of, value)
        self.told(BadOrder("twice"), Order, AX, BX, AX)
        self.told(BadOrder("twice"), Order.of, THIRTY_SEVEN[:36] + (AX,))
        self.told(TooMany("pairs", 36), Order, *THIRTY_SEVEN)
        self.told(TooMany("pairs", 36), Order.of, list(THIRTY_SEVEN))

    def test_later_changes_have_no_effect(self):
        pairs = [AX, BX]
        order = Order.of(pairs)
        pairs.append(BY)
        self.assertEqual(str(order), "a x ; b x")

    def test_equal(self):
        self.assertEqual(Order(AX, BX), Order(AX, BX))
        self.assertNotEqual(Order(AX, BX), Order(BX, AX))
        for value in ANY:
            self.assertIs(Order(BY) == value, False)
        self.assertNotEqual(Order(AX), (AX,))


class Asking(Case):
    def setUp(self):
        self.order = Order(BY, AX, BX)

    def test_in(self):
        for value in ANY:
            self.assertIs(value in self.order, is_pair_like(value))
        self.assertNotIn(AY, self.order)

    def test_index(self):
        self.assertEqual([self.order[k] for k in (0, 1, 2, -1, -2, -3)], [BY, AX, BX, BX, AX, BY])
        for k in (3, 4, -4, LONG, -LONG):
            self.told(BadOrder(k), lambda: self.order[k])
        self.told(BadOrder(0), lambda: Order()[0])
        self.told(BadOrder(-1), lambda: Order()[-1])

    def test_no_index(self):
        for value in NO_INDEXES:
            self.told(BadOrder(value), lambda: self.order[value])

    def test_slices(self):
        order = Order(*SIX_BY_SIX[:7])
        parts = (None, 0, 1, 3, 6, 7, 9, -1, -3, -7, -9, LONG)
        for first in parts:
            for last in parts:
                for step in (None, 1, 2, 5, LONG, -1, -2, -LONG):
                    told = order[first:last:step]
                    self.assertIsInstance(told, Order)
                    self.assertEqual(told.pairs, SIX_BY_SIX[:7][first:last:step])

    def test_place(self):
        self.assertEqual([self.order.place(BY), self.order.place(pair=BX)], [0, 2])
        for value in [AY, *NO_PAIRS]:
            self.told(NoPair(value), self.order.place, value)

    def test_moved(self):
        for pair in self.order:
            for k in range(3):
                moved = self.order.moved(pair, k)
                self.assertEqual([moved.place(pair), moved - Order(pair)], [k, self.order - Order(pair)])
        self.assertEqual(str(self.order.moved(pair=BY, k=1)), "a x ; b y ; b x")
        for value in [AY, *NO_PAIRS]:
            self.told(NoPair(value), self.order.moved, value, None)
        for value in [*NO_INDEXES, 3, -1, LONG]:
            self.told(BadOrder("place"), self.order.moved, BX, value)

    def test_reduced(self):
        self.assertEqual(str(self.order.reduced([BX, AY, BY, BX])), "b y ; b x")
        self.assertEqual([str(self.order.reduced(())), self.order.reduced(pairs=SIX_BY_SIX)], ["-", self.order])
        for value in NO_ROWS:
            self.told(BadOrder("pairs"), self.order.reduced, value)
        for value in NO_PAIRS:
            self.told(BadPair(value), self.order.reduced, [BX, value, 5])


class Signs(Case):
    def test_signs(self):
        one, other = Order(BY, AX, BX), Order(BX, BY)
        self.assertEqual([str(other + Order(AX)), str(one - other), str(one & other), str(other & one)], [
            "b x ; b y ; a x", "a x", "b y ; b x", "b x ; b y"])
        self.assertEqual([str(~one), ~~one], ["y b ; x a ; x b", one])
        self.assertEqual([one + Order(), Order() + one], [one, one])

    def test_part_of(self):
        one = Order(BY, AX, BX)
        for part, wanted in [(Order(), True), (one, True), (Order(BY, BX), True), (Order(BX, BY), False), (Order(AY), False),
                             (Order(BY, AY), False), (Order(BY, AX, BX, AY), False), (Order(AX), True)]:
            self.assertIs(part <= one, wanted)
            self.assertIs(one >= part, wanted)

    def test_errors(self):
        for sign in SIGNS:
            for value in others(Order):
                self.told(BadOrder("other"), sign, Order(AX), value)
        self.told(BadOrder("twice"), lambda: Order(AX, BX) + Order(BX))
        self.told(BadOrder("twice"), lambda: Order(*SIX_BY_SIX) + Order(("a", "u")))
        self.told(TooMany("pairs", 36), lambda: Order(*SIX_BY_SIX) + Order(("g", "u")))

    def test_in_place(self):
        one, other = Order(BY, AX), Order(BX)
        order = one
        order += other
        order -= Order(BY)
        self.assertEqual([str(order), str(one), str(other)], ["a x ; b x", "b y ; a x", "b x"])
        order &= one
        self.assertEqual(str(order), "a x")


class ByTable(Case):
    def test_by_worth(self):
        table = Table({"b": {"x": 5, "y": 9, "z": 0}, "a": {"x": 5, "y": LONG}, "ab": {"x": 5}})
        self.assertEqual(str(Order.by_worth(table)), "a y ; b y ; a x ; ab x ; b x")
        self.assertEqual(str(Order.by_sources(table=table)), "a y ; a x ; ab x ; b y ; b x")
        self.assertEqual([Order.by_worth(Table({})), Order.by_sources(Table({}))], [Order(), Order()])
        full = Table.flat({a: list("uvwxyz") for a in "abcdef"})
        self.assertEqual(Order.by_worth(full).pairs, SIX_BY_SIX)

    def test_wrong(self):
        for value in others(Table):
            self.told(BadTable("table"), Order.by_worth, value)
            self.told(BadTable("table"), Order.by_sources, value)


class Called(Case):
    def test_filling(self):
        order = Order(AX, AY, BX, BY)
        self.assertEqual(order(Side(a=5, b=4), Side(x=3, y=4)), Filling({AX: 3, AY: 2, BY: 2}))
        self.assertEqual(order(sources=Side(a=LONG), uses=Side(x=1, y=LONG)), Filling({AX: 1, AY: LONG - 1}))
        self.assertEqual([order(Side(), Side(x=1)), Order()(Side(a=1), Side(x=1)), order(Side(c=1), Side(x=1))], [Filling({})] * 3)

    def test_a_name_can_be_both(self):
        order = Order(("a", "b"), ("b", "a"), ("a", "a"))
        self.assertEqual(str(order(Side(a=3, b=5), Side(a=7, b=2))), "a a 1 ; a b 2 ; b a 5")

    def test_wrong(self):
        for value in others(Side):
            self.told(BadSide("sources"), Order(AX), value, 5)
            self.told(BadSide("uses"), Order(AX), Side(), value)


class Texts(Case):
    def test_read(self):
        for order in [Order(), Order(AX), Order(BY, AX, ("ab", "zzzzzzzz")), Order(*SIX_BY_SIX)]:
            self.assertEqual(Order.read(text=str(order)), order)
        self.assertEqual([str(Order()), str(Order(BY, AX))], ["-", "b y ; a x"])

    def test_what_cannot_stand(self):
        for value in NO_STRINGS:
            self.told(BadText(0, 0), Order.read, value)
        for text, word in [
                ("", 0), ("- -", 1), ("- ; a x", 1), ("a", 1), ("a ;", 1), ("a x ;", 3), ("a x ; b", 4), ("a x b y", 2),
                ("a x ;; b y", 2), ("a x  ; b y", 2), ("none x", 0), ("a none", 1), ("a x ; -", 3), ("a x 1", 2), ("A x", 0),
                ("a x ; self y", 3), ("a abcdefghi", 1), ("a x\n", 1), (" a x", 0), ("a x ", 2), ("; a x", 0)]:
            self.told(BadText(0, word), Order.read, text)

    def test_what_the_class_raises(self):
        self.told(BadOrder("twice"), Order.read, "a x ; b x ; a x")
        self.told(TooMany("pairs", 36), Order.read, " ; ".join(f"{a} {x}" for a, x in THIRTY_SEVEN))
        self.told(BadText(0, 5), Order.read, "a x ; a x x")


if __name__ == "__main__":
    unittest.main()
