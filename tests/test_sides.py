"""Sides: making them, asking them, their signs, their texts."""

import unittest

from filledrow.errors import BadAmount, BadName, BadSide, BadText, Lacking
from filledrow.sides import Side
from tests.support import ANY, LONG, NO_AMOUNTS, NO_COUNTS, NO_DICTS, NO_NAMES, NO_STRINGS, Case, can_be_key, others

SIGNS = [
    lambda one, other: one + other, lambda one, other: one - other, lambda one, other: one & other,
    lambda one, other: one | other, lambda one, other: one <= other, lambda one, other: one < other,
]


class Making(Case):
    def test_attributes(self):
        side = Side(b=2, a=7, c=0, ab=1)
        self.assertEqual([side.names, side.total, len(side), list(side)], [
            ("a", "ab", "b"), 10, 3, [("a", 7), ("ab", 1), ("b", 2)]])
        self.assertEqual([Side().names, Side().total, bool(Side()), bool(side)], [(), 0, False, True])
        self.assertEqual(Side.of(amounts={"b": 2, "ab": 1, "a": 7}), side)
        self.assertEqual(Side(abcdefgh=LONG).total, LONG)

    def test_keywords_that_are_no_names(self):
        for value in NO_NAMES:
            if isinstance(value, str):
                self.told(BadName(value), lambda: Side(**{value: -1, "zz": -1, "~": 1}))
        self.told(BadName("self"), lambda: Side(**{"self": 1}))
        self.told(BadName("A"), lambda: Side(**{"b_": 1, "a": -1, "B": 1, "A": 1}))

    def test_amounts_of_keywords(self):
        for value in NO_AMOUNTS:
            self.told(BadAmount(value), lambda: Side(c=-5, b=value, a=1))

    def test_of(self):
        for value in NO_DICTS:
            self.told(BadSide("amounts"), Side.of, value)
        for value in NO_NAMES:
            if can_be_key(value):
                self.told(BadName(value), Side.of, {"b": -1, value: 1, 6: 1})
        for value in NO_AMOUNTS:
            self.told(BadAmount(value), Side.of, {"b": 1, "c": value, "a": -5})
        self.told(BadName("self"), Side.of, {"a": 1, "self": 1, "none": 1})
        self.told(BadName("none"), Side.of, {"none": 1, "self": 1})

    def test_later_changes_have_no_effect(self):
        amounts = {"a": 1}
        side = Side.of(amounts)
        amounts["a"] = 5
        amounts["b"] = 1
        self.assertEqual([str(side), amounts], ["a 1", {"a": 5, "b": 1}])
        list(side).append(("c", 1))
        self.assertEqual(str(side), "a 1")


class Asking(Case):
    def test_amounts(self):
        side = Side(a=3, x=4)
        for value in ANY:
            told = {"a": 3, "x": 4}.get(value, 0) if isinstance(value, str) else 0
            self.assertEqual(side[value], told)
            self.assertIs(value in side, told > 0)

    def test_equal(self):
        self.assertEqual(Side(a=1, b=0), Side(a=1))
        self.assertNotEqual(Side(a=1), Side(a=2))
        self.assertNotEqual(Side(a=1), Side(b=1))
        for value in ANY:
            self.assertIs(Side(q=1) == value, False)
        self.assertNotEqual(Side(), ())

    def test_with_amount(self):
        side = Side(a=3, b=4)
        self.assertEqual([str(side.with_amount("a", 0)), str(side.with_amount(name="c", amount=LONG)), str(side)], [
            "b 4", f"a 3 b 4 c {LONG}", "a 3 b 4"])
        for value in NO_NAMES:
            self.told(BadName(value), side.with_amount, value, -1)
        for value in NO_AMOUNTS:
            self.told(BadAmount(value), side.with_amount, "a", value)


class Signs(Case):
    def test_name_by_name(self):
        one, other = Side(a=7, b=2, c=LONG), Side(b=5, c=1)
        self.assertEqual(str(one + other), f"a 7 b 7 c {LONG + 1}")
        self.assertEqual([str(one & other), str(one | other)], ["b 2 c 1", f"a 7 b 5 c {LONG}"])
        self.assertEqual([str(one - Side(a=7, c=1)), one - Side(), one - one], [f"b 2 c {LONG - 1}", one, Side()])

    def test_lacking(self):
        self.told(Lacking("b"), lambda: Side(a=7, b=2) - Side(d=1, c=1, b=3))
        self.told(Lacking("c"), lambda: Side(a=7, b=2) - Side(d=1, c=1, b=2))

    def test_other_kinds(self):
        for sign in SIGNS:
            for value in others(Side):
                self.told(BadSide("other"), sign, Side(a=1), value)

    def test_times(self):
        side = Side(a=2, b=LONG)
        self.assertEqual([side * 3, 3 * side, side * 0], [Side(a=6, b=3 * LONG)] * 2 + [Side()])
        for value in NO_AMOUNTS:
            self.told(BadAmount(value), lambda: side * value)
        for value in [None, True, "ab", -1, (1,), [1], {}]:
            self.told(BadAmount(value), lambda: value * side)

    def test_quotients_and_rests(self):
        side = Side(a=7, b=2)
        self.assertEqual([side // 3, side % 3, side // 1, side % 1], [Side(a=2), Side(a=1, b=2), side, Side()])
        for value in NO_COUNTS:
            self.told(BadAmount(value), lambda: side // value)
            self.told(BadAmount(value), lambda: side % value)

    def test_order(self):
        side = Side(a=2, b=1)
        self.assertEqual([side <= side, side < side, side <= Side(a=2, b=2), side < Side(a=2, b=2)], [True, False, True, True])
        self.assertEqual([side <= Side(a=9), side < Side(a=9), Side() <= side, Side() < side], [False, False, True, True])
        self.assertEqual([side >= Side(a=2), side > Side(a=2), Side(a=1) < Side(b=2)], [True, True, False])

    def test_in_place(self):
        one, other = Side(a=7, b=2), Side(b=1)
        side = one
        side += other
        side -= Side(a=1)
        side *= 3
        side //= 2
        side %= 5
        self.assertEqual([str(side), str(one), str(other)], ["a 4 b 4", "a 7 b 2", "b 1"])
        side &= Side(a=1, b=9)
        side |= Side(c=1)
        self.assertEqual(str(side), "a 1 b 4 c 1")


class Texts(Case):
    def test_read(self):
        for side in [Side(), Side(a=1), Side(a=7, b=20, ab=LONG), Side.of({letter * 8: 1 for letter in "abcdefghijkl"})]:
            self.assertEqual(Side.read(text=str(side)), side)
        self.assertEqual([str(Side()), str(Side(b=20, a=3))], ["-", "a 3 b 20"])

    def test_long_numbers(self):
        side = Side(a=10 ** 29)
        for _ in range(200):
            side = side * 10 ** 29
        self.assertEqual(str(side), "a 1" + "0" * 29 * 201)
        self.assertEqual(Side.read(str(side)), side)

    def test_what_cannot_stand(self):
        for value in NO_STRINGS:
            self.told(BadText(0, 0), Side.read, value)
        for text, word in [
                ("", 0), (" ", 0), ("- -", 1), ("- ", 1), (" -", 0), ("a", 1), ("a 0", 1), ("a 01", 1), ("a -1", 1), ("a 1 b", 3),
                ("a 1 ", 2), ("a  1", 1), ("a 1 a 1", 2), ("b 1 a 1", 2), ("a 1 ; b 1", 2), ("none 1", 0), ("self 1", 0),
                ("abcdefghi 1", 0), ("a 1 2", 2), ("a b", 1), ("1 a", 0), ("a 1 -", 2), ("A 1", 0), ("a 1\n", 1), ("a 1 b +1", 3)]:
            self.told(BadText(0, word), Side.read, text)


if __name__ == "__main__":
    unittest.main()
