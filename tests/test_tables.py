"""Tables: making them, asking them, their signs, their texts."""

import unittest

from filledrow.errors import BadAmount, BadName, BadPair, BadTable, BadText, BadWorth, NoName, TooMany
from filledrow.tables import Table
from tests.support import ANY, LETTERS, LONG, NO_AMOUNTS, NO_COUNTS, NO_DICTS, NO_NAMES, NO_ROWS, NO_STRINGS
from tests.support import Case, can_be_key, is_pair_like, others

SIGNS = [
    lambda one, other: one + other, lambda one, other: one | other, lambda one, other: one & other,
    lambda one, other: one <= other, lambda one, other: one < other, lambda one, other: one >= other,
    lambda one, other: one > other,
]
SIX = {letter: {} for letter in LETTERS[:6]}
BEHIND = {letter: {} for letter in LETTERS[2:]}
SEVEN = {letter: {} for letter in LETTERS[:7]}


def wide(many):
    """A dict of one source with many uses."""
    return {"a": {letter: 1 for letter in LETTERS[:many]}}


class Making(Case):
    def test_attributes(self):
        table = Table({"b": {"y": 1, "w": 0}, "a": {"y": 2}, "c": {}}, ["z", "y", "x", "x"])
        self.assertEqual(table.sources, ("a", "b", "c"))
        self.assertEqual(table.uses, ("w", "x", "y", "z"))
        self.assertEqual(table.pairs, (("a", "y"), ("b", "y")))
        self.assertEqual([len(table), list(table), bool(table)], [2, [("a", "y"), ("b", "y")], True])
        self.assertFalse(Table({"a": {"x": 0}}))
        self.assertEqual(Table(rows={}, uses=("x",)).uses, ("x",))

    def test_pairs_ascend_by_source_then_by_use(self):
        names = ["b", "a", "ab", "aa", "z", "ba"]
        table = Table({a: {x: 1 for x in names} for a in names})
        self.assertEqual(table.sources, tuple(sorted(names)))
        self.assertEqual(table.pairs, tuple(sorted((a, x) for a in names for x in names)))

    def test_a_name_can_be_both(self):
        table = Table({"a": {"a": 3, "b": 1}, "b": {"a": 2}})
        self.assertEqual([table["a", "a"], table["a", "b"], table["b", "a"], table["b", "b"]], [3, 1, 2, 0])
        self.assertEqual((~table)["a", "b"], 2)

    def test_rows(self):
        for value in NO_DICTS:
            self.told(BadTable("rows"), Table, value)
            self.told(BadTable("rows"), Table, rows={"a": {"x": 1}, 5: value}, uses=None)

    def test_uses(self):
        for value in NO_ROWS:
            self.told(BadTable("uses"), Table, {5: {}}, value)

    def test_names(self):
        for value in NO_NAMES:
            if can_be_key(value):
                self.told(BadName(value), Table, {"b": {5: "bad"}, value: {}}, [5])
                self.told(BadName(value), Table, {"b": {"y": "bad"}, "a": {"x": 1, value: 1}}, [5])
            self.told(BadName(value), Table, {"b": {"y": "bad"}}, ("z", value, 5))
        self.told(BadName("B"), Table, {"c": {"Z": 1}, "B": {}, "A": {}})
        self.told(BadName("Z"), Table, {"c": {"Z": 1}, "a": {"A": 1}})

    def test_longest_name(self):
        self.assertEqual(Table({"abcdefgh": {"zzzzzzzz": 1}}).pairs, (("abcdefgh", "zzzzzzzz"),))

    def test_worths(self):
        for value in NO_AMOUNTS:
            self.told(BadWorth(value), Table, {"b": {"y": 1, "x": value}, "a": {"x": -5}, **BEHIND})
        self.assertEqual(Table({"a": {"x": LONG}})["a", "x"], LONG)

    def test_bounds(self):
        self.assertEqual(len(Table({**SIX, **wide(6)}).sources), 6)
        self.told(TooMany("sources", 6), Table, {**SEVEN, **wide(7)})
        self.told(TooMany("uses", 6), Table, wide(7))
        self.told(TooMany("uses", 6), Table, wide(6), ["z"])
        self.assertEqual(len(Table(wide(6), LETTERS_OF_SIX).uses), 6)

    def test_later_changes_have_no_effect(self):
        rows, uses = {"a": {"x": 1}}, ["y"]
        table = Table(rows, uses)
        rows["a"]["x"] = 5
        rows["b"] = {"z": 1}
        uses.append("w")
        self.assertEqual(str(table), "x y : a 1 0")
        scopes = {"a": ["x"]}
        flat = Table.flat(scopes)
        scopes["a"].append("y")
        self.assertEqual(str(flat), "x : a 1")


LETTERS_OF_SIX = list(LETTERS[:6])


class Asking(Case):
    def setUp(self):
        self.table = Table({"a": {"x": 3, "y": 2}, "b": {"y": 1, "z": 0}})

    def test_worth_of_a_pair(self):
        self.assertEqual([self.table["a", "x"], self.table["b", "x"], self.table["q", "x"]], [3, 0, 0])
        for value in ANY:
            if not is_pair_like(value):
                self.told(BadPair(value), lambda: self.table[value])

    def test_in(self):
        self.assertIn(("a", "x"), self.table)
        for value in [*ANY, ("b", "x"), ("b", "z"), ["a", "x"], ("x", "a")]:
            if value != ("a", "x"):
                self.assertIs(value in self.table, False)

    def test_scope_and_takers(self):
        self.assertEqual([self.table.scope("a"), self.table.scope(source="b")], [("x", "y"), ("y",)])
        self.assertEqual([self.table.takers("y"), self.table.takers(use="z")], [("a", "b"), ()])
        for value in ANY:
            if value != "a" or not isinstance(value, str):
                self.told(NoName(value), self.table.scope, value)
            if value != "x" or not isinstance(value, str):
                self.told(NoName(value), self.table.takers, value)

    def test_equal(self):
        same = Table({"b": {"z": 0, "y": 1}, "a": {"y": 2, "x": 3}})
        self.assertEqual(self.table, same)
        self.assertNotEqual(self.table, Table({"a": {"x": 3, "y": 2}, "b": {"y": 1}}))
        self.assertNotEqual(self.table, self.table.with_worth("b", "z", 1))
        self.assertNotEqual(self.table, Table({"a": {"x": 3, "y": 2}, "b": {"y": 1, "z": 0}, "c": {}}))
        for value in ANY:
            self.assertIs(Table({"q": {}}) == value, False)
            self.assertIs(Table({"q": {}}) != value, True)


class Signs(Case):
    def setUp(self):
        self.one = Table({"a": {"x": 5, "y": 2}})
        self.other = Table({"a": {"x": 3}, "b": {"z": 4}})

    def test_sums_greater_and_lesser(self):
        self.assertEqual(str(self.one + self.other), "x y z : a 8 2 0 ; b 0 0 4")
        self.assertEqual(str(self.one | self.other), "x y z : a 5 2 0 ; b 0 0 4")
        self.assertEqual(str(self.one & self.other), "x y z : a 3 0 0 ; b 0 0 0")

    def test_names_of_both_stay(self):
        bare = Table({"c": {}}, ["w"])
        for sign in SIGNS[:3]:
            self.assertEqual([sign(bare, self.one).sources, sign(bare, self.one).uses], [("a", "c"), ("w", "x", "y")])

    def test_other_kinds(self):
        for sign in SIGNS:
            for value in others(Table):
                self.told(BadTable("other"), sign, self.one, value)

    def test_too_many(self):
        for sign in SIGNS[:3]:
            self.told(TooMany("sources", 6), sign, Table({**SIX, **wide(6)}), Table({"g": {"z": 1}}))
            self.told(TooMany("uses", 6), sign, Table(wide(6)), Table({"g": {"z": 1}}))

    def test_times(self):
        self.assertEqual([str(self.one * 3), str(3 * self.one), str(self.one * 0)], ["x y : a 15 6"] * 2 + ["x y : a 0 0"])
        self.assertEqual((self.one * LONG)["a", "x"], 5 * LONG)
        for value in NO_AMOUNTS:
            self.told(BadAmount(value), lambda: self.one * value)
            if not isinstance(value, (Table,)) and not has_times(value):
                self.told(BadAmount(value), lambda: value * self.one)

    def test_quotients_and_rests(self):
        self.assertEqual([str(self.one // 2), str(self.one % 2), str(self.one // 1), str(self.one % 1)], [
            "x y : a 2 1", "x y : a 1 0", "x y : a 5 2", "x y : a 0 0"])
        self.assertEqual((self.one * LONG // LONG), self.one)
        for value in NO_COUNTS:
            self.told(BadAmount(value), lambda: self.one // value)
            self.told(BadAmount(value), lambda: self.one % value)

    def test_exchanged(self):
        self.assertEqual(str(~self.other), "a b : x 3 0 ; z 0 4")
        self.assertEqual(~~self.one, self.one)
        self.assertEqual(str(~Table({"a": {}}, ["x"])), "a : x 0")

    def test_order(self):
        less, more = Table({"a": {"x": 2}}), Table({"a": {"x": 2, "y": 1}})
        for one, other, wanted in [
                (less, more, [True, True, False, False]), (more, less, [False, False, True, True]),
                (less, less, [True, False, True, False]), (less, Table({"b": {"x": 2}}), [False] * 4),
                (less, Table({"a": {"x": 2}, "b": {}}), [True, False, True, False])]:
            self.assertEqual([sign(one, other) for sign in (SIGNS[3], SIGNS[4], SIGNS[5], SIGNS[6])], wanted)

    def test_in_place(self):
        for at, wanted in [("+", "x y z : a 8 2 0 ; b 0 0 4"), ("|", "x y z : a 5 2 0 ; b 0 0 4"),
                           ("&", "x y z : a 3 0 0 ; b 0 0 0")]:
            table, texts = self.one, [str(self.one), str(self.other)]
            if at == "+":
                table += self.other
            elif at == "|":
                table |= self.other
            else:
                table &= self.other
            self.assertEqual([str(table), str(self.one), str(self.other)], [wanted, *texts])
        table = self.one
        table *= 4
        table //= 3
        table %= 4
        self.assertEqual([str(table), str(self.one)], ["x y : a 2 2", "x y : a 5 2"])


def has_times(value):
    """Whether a value has a sign `*` of its own, which goes first."""
    return type(value).__module__.startswith("filledrow") and hasattr(value, "__mul__")


class Others(Case):
    def setUp(self):
        self.table = Table({"a": {"x": 3, "y": 2}, "b": {"y": 1}})

    def test_with_worth(self):
        self.assertEqual(str(self.table.with_worth("a", "x", 0)), "x y : a 0 2 ; b 0 1")
        self.assertEqual(str(self.table.with_worth(source="c", use="w", worth=LONG)), f"w x y : a 0 3 2 ; b 0 0 1 ; c {LONG} 0 0")
        self.assertEqual(str(self.table), "x y : a 3 2 ; b 0 1")
        for value in NO_NAMES:
            self.told(BadName(value), self.table.with_worth, value, 5, -1)
            self.told(BadName(value), self.table.with_worth, "a", value, -1)
        for value in NO_AMOUNTS:
            self.told(BadWorth(value), Table({**SIX, **wide(6)}).with_worth, "g", "z", value)
        self.told(TooMany("sources", 6), Table({**SIX, **wide(6)}).with_worth, "g", "z", 0)
        self.told(TooMany("uses", 6), Table({**SIX, **wide(6)}).with_worth, "a", "z", 0)

    def test_without(self):
        self.assertEqual(str(self.table.without("a", "x", "a")), "y : b 1")
        self.assertEqual(self.table.without(), self.table)
        self.assertEqual(str(self.table.without("a", "b")), "x y :")
        self.assertEqual(str(Table({"a": {"a": 1, "b": 2}, "b": {"b": 3}}).without("a")), "b : b 3")
        for value in ANY:
            if not isinstance(value, str) or value not in ("a", "x"):
                self.told(NoName(value), self.table.without, "a", value, 5)

    def test_flat(self):
        self.assertEqual(str(Table.flat({"b": ["y", "x", "y"], "a": ("x",)}, 7)), "x y : a 7 0 ; b 7 7")
        self.assertEqual(str(Table.flat(scopes={"b": ["y"]}, worth=0)), "y : b 0")
        self.assertEqual(str(Table.flat({})), ":")
        for value in NO_DICTS:
            self.told(BadTable("scopes"), Table.flat, value, -1)
        for value in NO_ROWS:
            self.told(BadTable("scopes"), Table.flat, {5: ["x"], "a": value}, -1)
        for value in NO_NAMES:
            if can_be_key(value):
                self.told(BadName(value), Table.flat, {"a": [5], value: []}, -1)
            self.told(BadName(value), Table.flat, {"a": ["x", value, 5]}, -1)
        for value in NO_AMOUNTS:
            self.told(BadWorth(value), Table.flat, SEVEN_SCOPES, value)
        self.told(BadWorth(-1), Table.flat, {}, -1)
        self.told(TooMany("sources", 6), Table.flat, SEVEN_SCOPES)
        self.told(TooMany("uses", 6), Table.flat, {"a": list(LETTERS[:7])})

    def test_rated(self):
        self.assertEqual(str(Table.rated({"b": 2, "a": 0}, {"y": 3, "x": LONG})), f"x y : a 0 0 ; b {2 * LONG} 6")
        self.assertEqual([str(Table.rated({}, {"x": 1})), str(Table.rated({"a": 1}, {}))], ["x :", ": a"])
        for value in NO_DICTS:
            self.told(BadTable("by_source"), Table.rated, value, 5)
            self.told(BadTable("by_use"), Table.rated, {5: -1}, value)
        for value in NO_NAMES:
            if can_be_key(value):
                self.told(BadName(value), Table.rated, {"a": -1, value: 1, 6: 1}, {6: -1})
                self.told(BadName(value), Table.rated, {"a": -1}, {"x": 1, value: 1, 6: 1})
        for value in NO_AMOUNTS:
            self.told(BadWorth(value), Table.rated, {**dict.fromkeys(LETTERS, 1), "h": value}, {"x": -1})
            self.told(BadWorth(value), Table.rated, {"a": 1}, {"y": 1, "x": value, "w": -1})
        self.told(TooMany("sources", 6), Table.rated, dict.fromkeys(LETTERS, 1), dict.fromkeys(LETTERS, 1))
        self.told(TooMany("uses", 6), Table.rated, {"a": 1}, dict.fromkeys(LETTERS, 1))


SEVEN_SCOPES = {letter: [] for letter in LETTERS[:7]}


class Texts(Case):
    TABLES = [
        Table({}), Table({}, ["x", "y"]), Table({"a": {}}), Table({"a": {}, "b": {}}), Table({"a": {"x": 0}}),
        Table({"a": {"x": 3, "y": 20}, "b": {"y": LONG}, "ab": {"z": 1}}), Table({**SIX, **wide(6)}),
    ]

    def test_str(self):
        self.assertEqual([str(table) for table in self.TABLES[:6]], [
            ":", "x y :", ": a", ": a ; b", "x : a 0", f"x y z : a 3 20 0 ; ab 0 0 1 ; b 0 {LONG} 0"])

    def test_read(self):
        for table in self.TABLES:
            self.assertEqual(Table.read(str(table)), table)
            self.assertEqual(str(Table.read(text=str(table))), str(table))

    def test_long_numbers(self):
        table = Table({"a": {"x": 10 ** 29}})
        for _ in range(200):
            table = table * 10 ** 29
        self.assertEqual(str(table), "x : a 1" + "0" * 29 * 201)
        self.assertEqual(Table.read(str(table)), table)

    def test_no_strings(self):
        for value in NO_STRINGS:
            self.told(BadText(0, 0), Table.read, value)

    def test_what_cannot_stand(self):
        for text, word in [
                ("", 0), (" ", 0), ("x", 1), ("x y", 2), (" :", 0), ("x  y :", 1), ("y x :", 1), ("x x :", 1), ("none :", 0),
                ("self :", 0), ("abcdefghi :", 0), ("X :", 0), ("1 :", 0), (": ", 1), (": :", 1), (": ;", 1), (": a ;", 3),
                (": a 1", 2), (": a b", 2), (": a ; a", 3), (": b ; a", 3), (": a ; none", 3), ("x : a", 3), ("x : a ;", 3),
                ("x : a 01", 3), ("x : a +1", 3), ("x : a -1", 3), ("x : a 1.0", 3), ("x : a 1 1", 4), ("x : a 1 b 1", 4),
                ("x : a 1 ; ", 5), ("x : a 1 ; b", 6), ("x : a 1 ; b 2 ;", 8), ("x : a 1\n", 3), ("x : a 00", 3),
                ("x y : a 3 2 ; b 1", 9), ("x y : a 3 ; b 1 1", 5), ("x y ; a 3 2", 2), ("x :  a 1", 2), ("x : a 1_0", 3),
                ("-", 0), ("x y : A 1 1", 3), ("x y :: a 1 1", 2)]:
            self.told(BadText(0, word), Table.read, text)

    def test_what_the_class_raises(self):
        self.told(TooMany("uses", 6), Table.read, "a b c d e f g :")
        self.told(TooMany("sources", 6), Table.read, ": a ; b ; c ; d ; e ; f ; g")
        self.told(TooMany("sources", 6), Table.read, "s t u v w x y : " + " ; ".join(f"{a} 1 1 1 1 1 1 1" for a in "abcdefg"))
        self.told(BadText(0, 9), Table.read, "a b c d e f g : a x")
        self.told(BadText(0, 8), Table.read, "a b c d e f g : 1")


if __name__ == "__main__":
    unittest.main()
