"""Bars: making them, their signs, what orders break, what demands they tell, examples."""

import itertools
import random
import unittest

from filledrow.bars import Bars, Example, example, joint_pairs
from filledrow.errors import BadBars, BadPair, BadSeen, BadTable, TooMany
from filledrow.fillings import Filling
from filledrow.look_bars import shows_example
from filledrow.orders import Order
from filledrow.sides import Side
from filledrow.tables import Table
from tests.support import ANY, FOUR, LONG, NO_PAIRS, NO_ROWS, SIX_BY_SIX, THIRTY_SEVEN, Case, others, pairs_of

AX, AY, BX, BY = FOUR
SIGNS = [
    lambda one, other: one | other, lambda one, other: one & other, lambda one, other: one - other,
    lambda one, other: one <= other, lambda one, other: one < other, lambda one, other: one >= other,
    lambda one, other: one > other,
]
NO_PAIR_LISTS = [value for value in ANY if value not in ([], (), [AX], (AX,))] + [[AX, BX, AX], [AX, ["a", "y"]]]
NO_BARS = [
    (AX, None), (AX, None, None, None), (AX, AX, None), (AX, None, AX), (AX, AY, AX), (None, AX, AY), (AX, ("c", "x"), None),
    (AX, AY, ("c", "x")), (("c", "x"), AX, None), [AX, AY, None], (AX, ["a", "y"], None), (AX, AY, False), (AX, 0, None),
]
THREE = (AX, AY, BX)


def breaks(order, bar):
    """Whether an order breaks a bar, by the words of the document."""
    places = {pair: at for at, pair in enumerate(order)}
    return all(places[bar[0]] < (len(places) if other is None else places[other]) for other in bar[1:])


def all_bars(pairs):
    """All bars about some pairs, in the form in which they are kept, ascending, None behind all pairs."""
    rows = []
    for own in pairs:
        rest = [pair for pair in pairs if pair != own]
        rows.extend((own, q, r) for q, r in itertools.combinations(rest, 2))
        rows.extend((own, q, None) for q in [*rest, None])
    return sorted(rows, key=lambda bar: tuple((pair is None, pair or ()) for pair in bar))


def some_bars(chance, pairs, many):
    """A lot of bars by chance."""
    return Bars(pairs, *[chance.choice(all_bars(pairs)) for _ in range(many)])


class Making(Case):
    def test_kept_form(self):
        bars = Bars([BX, AX, AY], (AX, BX, AY), (AX, AY, BX), (AX, None, AY), (AY, BX, BX), (BX, None, None))
        self.assertEqual(bars.pairs, (AX, AY, BX))
        self.assertEqual(list(bars), [(AX, AY, BX), (AX, AY, None), (AY, BX, None), (BX, None, None)])
        self.assertEqual([len(bars), bool(bars), bool(Bars((AX,))), Bars([]).pairs], [4, True, False, ()])
        self.assertEqual(Bars.of(pairs=(AY, AX, BX), bars=list(bars)), bars)
        self.assertEqual(Bars(pairs=[AX]), Bars.of([AX], ()))

    def test_bars_ascend(self):
        pairs = pairs_of(["a", "ab", "b"], ["x", "xa"])[:4]
        self.assertEqual(list(Bars.of(pairs, all_bars(pairs)[::-1])), all_bars(pairs))

    def test_pairs(self):
        for value in NO_PAIR_LISTS:
            self.told(BadBars("pairs"), Bars, value, 5)
            self.told(BadBars("pairs"), Bars.of, value, (5,))
        self.told(BadBars("pairs"), Bars, SIX_BY_SIX + (AX,))
        self.told(TooMany("pairs", 36), Bars, THIRTY_SEVEN, 5)
        self.assertEqual(len(Bars(SIX_BY_SIX).pairs), 36)

    def test_what_is_no_bar(self):
        for value in [*ANY, *NO_BARS]:
            if value not in [(AX, None, None), (AX, AY, None)]:
                self.told(BadBars(1), Bars, THREE, (AX, AY, None), value, 5)
                self.told(BadBars(0), Bars.of, THREE, [value, 5])
        for value in NO_ROWS:
            self.told(BadBars("bars"), Bars.of, 5, value)

    def test_later_changes_have_no_effect(self):
        pairs, bars = [AX, AY], [(AX, AY, None)]
        made = Bars.of(pairs, bars)
        pairs.append(BX)
        bars.append((AY, AX, None))
        self.assertEqual(str(made), "a x a y ; a x a y none")
        list(made).append(5)
        self.assertEqual(len(made), 1)

    def test_in(self):
        bars = Bars(THREE, (AX, AY, BX), (AY, BX, None))
        self.assertIn((AX, AY, BX), bars)
        for value in [*ANY, *NO_BARS, (AX, BX, AY), (AY, None, BX), (AY, BX, BX), (AX, AY, None), ((AX,), AY, BX)]:
            self.assertIs(value in bars, False)

    def test_greatest_lot(self):
        pairs = SIX_BY_SIX
        bars = Bars.of(pairs, all_bars(pairs))
        self.assertEqual([len(bars), bars & bars == bars, len(bars - bars)], [36 * (595 + 35 + 1), True, 0])


class Signs(Case):
    def setUp(self):
        self.one = Bars(THREE, (AX, AY, BX), (AY, BX, None))
        self.other = Bars([BX, AY, AX], (AX, AY, None), (AY, BX, None))

    def test_signs(self):
        self.assertEqual(list(self.one | self.other), [(AX, AY, BX), (AX, AY, None), (AY, BX, None)])
        self.assertEqual([list(self.one & self.other), list(self.one - self.other)], [[(AY, BX, None)], [(AX, AY, BX)]])
        self.assertEqual((self.one & self.other).pairs, THREE)

    def test_order(self):
        both = self.one | self.other
        for one, other, wanted in [(self.one, both, [True, True, False, False]), (both, self.one, [False, False, True, True]),
                                   (both, both, [True, False, True, False]), (self.one, self.other, [False] * 4)]:
            self.assertEqual([sign(one, other) for sign in SIGNS[3:]], wanted)

    def test_equal(self):
        self.assertEqual(self.one, Bars(THREE[::-1], (AY, None, BX), (AX, BX, AY)))
        self.assertNotEqual(self.one, self.other)
        self.assertNotEqual(Bars(THREE), Bars(FOUR))
        for value in ANY:
            self.assertIs(self.one == value, False)

    def test_other_kinds(self):
        for sign in SIGNS:
            for value in [*ANY, Bars(FOUR), Bars([])]:
                self.told(BadBars("other"), sign, self.one, value)

    def test_in_place(self):
        bars = self.one
        bars |= self.other
        self.assertEqual([len(bars), len(self.one), len(self.other)], [3, 2, 2])
        bars -= self.one
        self.assertEqual(list(bars), [(AX, AY, None)])
        bars &= self.one
        self.assertEqual(list(bars), [])

    def test_turned(self):
        self.assertEqual(str(~self.one), "x a x b y a ; x a x b y a ; y a x b none")
        self.assertEqual([~~self.one, ~Bars([])], [self.one, Bars([])])


class Broken(Case):
    def test_first_broken(self):
        chance = random.Random(3)
        for _ in range(60):
            bars = some_bars(chance, FOUR, chance.randint(0, 6))
            for row in itertools.permutations(FOUR):
                broken = [bar for bar in bars if breaks(row, bar)]
                wanted = min(broken, key=lambda bar: (row.index(bar[0]), list(bars).index(bar)), default=None)
                self.assertEqual(bars.first_broken(order=Order(*row)), wanted)

    def test_no_order_of_the_pairs(self):
        for value in [*ANY, Order(AX, AY), Order(*FOUR), Order(AX, AY, BY), Order()]:
            self.told(BadBars("order"), Bars(THREE).first_broken, value)

    def test_holding(self):
        bars = Bars(FOUR, (AX, AY, BX), (AX, AY, None), (AX, None, None), (AY, BX, BY), (BX, AX, None))
        self.assertEqual(bars.holding(AX, FOUR), ((AX, AY, BX), (AX, AY, None), (AX, None, None)))
        self.assertEqual([bars.holding(own=AX, left=[BX, AX]), bars.holding(AX, (AX, AY))], [
            ((AX, None, None),), ((AX, AY, None), (AX, None, None))])
        self.assertEqual([bars.holding(AY, [AY, BX]), bars.holding(BY, FOUR), bars.holding(AY, FOUR)], [(), (), ((AY, BX, BY),)])
        for value in NO_PAIRS:
            self.told(BadPair(value), bars.holding, value, 5)
        self.told(BadPair(("c", "x")), bars.holding, ("c", "x"), [("c", "x")])
        for value in [*NO_PAIR_LISTS, (), [AY], [AX, ("c", "x")], [AX, AX], (AX, None)]:
            self.told(BadBars("left"), bars.holding, AX, value)


def small_tables():
    """Tables of two by two, and of two by three, with small worths."""
    for worths in itertools.product(range(3), repeat=4):
        yield Table({"a": {"x": worths[0], "y": worths[1]}, "b": {"x": worths[2], "y": worths[3]}})
    chance = random.Random(5)
    for _ in range(25):
        yield Table({a: {x: chance.randint(0, 4) for x in "xyz"} for a in "ab"})


def small_amounts(table):
    """All amounts 0 and 1 of a table's names."""
    for row in itertools.product((0, 1), repeat=len(table.sources) + len(table.uses)):
        many = len(table.sources)
        yield Side.of(dict(zip(table.sources, row))), Side.of(dict(zip(table.uses, row[many:])))


def best_worth(table, sources, uses):
    """The greatest worth of a filling of amounts 0 and 1."""
    return max(best_of_each(table, sources.names, uses.names))


def best_of_each(table, sources, uses):
    """The worths of all ways to give each source one use of its own, or none."""
    if not sources:
        return [0]
    rows = best_of_each(table, sources[1:], uses)
    for use in uses:
        rest = [other for other in uses if other != use]
        rows = rows + [table[sources[0], use] + worth for worth in best_of_each(table, sources[1:], rest)]
    return rows


class Best(Case):
    def test_against_all_amounts(self):
        for table in small_tables():
            bars = Bars.best(table)
            amounts = [(one, other, best_worth(table, one, other)) for one, other in small_amounts(table)]
            for row in itertools.islice(itertools.permutations(table.pairs), 0, None, 7 if len(table) > 4 else 1):
                order = Order(*row)
                is_best = all(order(one, other).worth_in(table) == worth for one, other, worth in amounts)
                self.assertIs(bars.first_broken(order) is None, is_best)

    def test_with_further_pairs(self):
        for table in itertools.islice(small_tables(), 0, None, 5):
            if table.sources + table.uses != ("a", "b", "x", "y"):
                continue
            bars = Bars.best(table, pairs=FOUR[::-1])
            amounts = [(one, other, best_worth(table, one, other)) for one, other in small_amounts(table)]
            for row in itertools.permutations(FOUR):
                is_best = all(Order(*row)(one, other).worth_in(table) == worth for one, other, worth in amounts)
                self.assertIs(bars.first_broken(Order(*row)) is None, is_best)

    def test_used_up(self):
        for table in small_tables():
            bars = Bars.used_up(table)
            pairs = pairs_of(table.sources, table.uses)
            self.assertEqual(bars.pairs, pairs)
            amounts = [(one, other) for one, other in small_amounts(table) if one.total == other.total]
            wanted = [(one, other, max(full_worths(table, one.names, other.names))) for one, other in amounts]
            for row in itertools.islice(itertools.permutations(pairs), 0, None, 11 if len(pairs) > 4 else 1):
                order = Order(*row)
                is_best = all(order(one, other).worth_in(table) == worth for one, other, worth in wanted)
                self.assertIs(bars.first_broken(order) is None, is_best)

    def test_pairs(self):
        table = Table({"a": {"x": 2}, "b": {"y": LONG}})
        self.assertEqual(str(Bars.best(table)), "a x b y")
        self.assertEqual(str(Bars.best(table, [BY, AY, AX])), f"a x a y b y ; a y a x b y ; a y a x none ; a y b y none")
        self.assertEqual(Bars.best(table, [BY, ("q", "q"), AX]).pairs, (AX, BY, ("q", "q")))
        self.assertEqual(Bars.best(Table({}), []), Bars([]))
        for value in [*NO_PAIR_LISTS, (), [], [AX], [BY, BX], THIRTY_SEVEN + (BY,), [AX, BY, AX]]:
            if value is not None:
                self.told(BadBars("pairs"), Bars.best, table, value)
        full = Table.flat({a: list("uvwxyz") for a in "abcdef"})
        self.told(BadBars("pairs"), Bars.best, full, THIRTY_SEVEN)
        self.assertEqual(len(Bars.best(full, list(SIX_BY_SIX)).pairs), 36)

    def test_no_tables(self):
        for value in others(Table):
            self.told(BadTable("table"), Bars.best, value, 5)
            self.told(BadTable("table"), Bars.used_up, value)

    def test_ahead(self):
        self.assertEqual(list(Bars.ahead(pairs=FOUR, first=AX, then=BY)), [(BY, AX, None)])
        for value in NO_PAIR_LISTS:
            self.told(BadBars("pairs"), Bars.ahead, value, 5, 5)
        self.told(TooMany("pairs", 36), Bars.ahead, THIRTY_SEVEN, 5, 5)
        for value in [*NO_PAIRS, ("c", "x")]:
            self.told(BadPair(value), Bars.ahead, [AX, BX], value, 5)
            self.told(BadPair(value), Bars.ahead, [AX, BX], AX, value)
        self.told(BadPair(BX), Bars.ahead, [AX, BX], BX, BX)


def full_worths(table, sources, uses):
    """The worths of all ways to give each source one use of its own."""
    if not sources:
        return [0]
    rows = []
    for use in uses:
        rest = [other for other in uses if other != use]
        rows.extend(table[sources[0], use] + worth for worth in full_worths(table, sources[1:], rest))
    return rows


class SeenBars(Case):
    def test_against_all_orders(self):
        chance = random.Random(11)
        for _ in range(150):
            pairs = chance.sample(list(pairs_of("abc", "xyz")), chance.randint(1, 5))
            sources = Side.of({name: chance.choice([0, 1, 2, 5, LONG]) for name in "abc"})
            uses = Side.of({name: chance.choice([0, 1, 2, 5, LONG]) for name in "xyz"})
            filling = Order.of(pairs)(sources, uses)
            if chance.random() < 0.3:
                filling = filling // 2
            bars = Bars.seen(pairs, sources, uses, filling)
            self.assertEqual(bars.pairs, tuple(sorted(pairs)))
            for row in itertools.permutations(pairs):
                self.assertIs(bars.first_broken(Order(*row)) is None, Order(*row)(sources, uses) == filling)

    def test_the_bars_that_are_told(self):
        bars = Bars.seen(FOUR, Side(a=2, b=1), Side(x=1, y=3), Filling({AX: 1, AY: 1, BY: 1}))
        self.assertEqual(bars, Bars(FOUR, (AY, AX, BY), (AY, AX, None), (BX, AX, BY)))

    def test_wrong(self):
        one, other, put = Side(a=1), Side(x=1), Filling({AX: 1})
        for value in NO_PAIR_LISTS:
            self.told(BadBars("pairs"), Bars.seen, value, 5, 5, 5)
        self.told(TooMany("pairs", 36), Bars.seen, THIRTY_SEVEN, 5, 5, 5)
        for value in others(Side):
            self.told(BadSeen("sources"), Bars.seen, FOUR, value, 5, 5)
            self.told(BadSeen("uses"), Bars.seen, FOUR, one, value, 5)
        for value in others(Filling):
            self.told(BadSeen("filling"), Bars.seen, FOUR, one, other, value)
        self.told(BadSeen("fit"), Bars.seen, [BX], one, other, put * 2)
        self.told(BadSeen("fit"), Bars.seen, [BX], one, Side(), put)
        self.told(BadSeen("pairs"), Bars.seen, [BX], one, other, put)
        self.assertEqual(len(Bars.seen(pairs=[AX], sources=one, uses=other, filling=put)), 0)


class Joint(Case):
    def test_joint_pairs(self):
        self.assertEqual(joint_pairs(Table({"b": {"x": 1, "y": 0}}), Table({"a": {"x": 1}}), Table({"b": {"x": 5}})), (AX, BX))
        self.assertEqual(joint_pairs(), ())
        full = Table.flat({a: list("uvwxyz") for a in "abcdef"})
        self.assertEqual(joint_pairs(full, full), SIX_BY_SIX)
        self.told(TooMany("pairs", 36), joint_pairs, full, Table({"g": {"u": 1}}))
        for value in others(Table):
            self.told(BadTable("table"), joint_pairs, full, Table({"g": {"u": 1}}), value)


class Examples(Case):
    def test_each_bar_has_one(self):
        for table in small_tables():
            for pairs in (None, pairs_of(table.sources, table.uses)):
                bars = Bars.best(table, pairs)
                for bar in bars:
                    paper = example(table, bar)
                    self.assertIsInstance(paper, Example)
                    order = broken_order(bar, table)
                    self.assertEqual(paper.better, Filling({pair: 1 for pair in bar[1:] if pair}))
                    self.assertEqual(paper.sources, Side.of({pair[0]: 1 for pair in bar if pair}))
                    self.assertEqual(paper.uses, Side.of({pair[1]: 1 for pair in bar if pair}))
                    self.assertIs(shows_example(table, order, paper), True)

    def test_fourth_pair(self):
        table = Table({"a": {"x": 1, "y": 9}, "b": {"x": 9, "y": 1}})
        self.assertEqual(str(example(table, (AX, AY, BX)).worse), "a x 1 ; b y 1")
        self.assertEqual(str(example(table.with_worth("b", "y", 0), bar=(AX, AY, BX)).worse), "a x 1")
        self.assertEqual(str(example(table, (AX, AY, None)).worse), "a x 1")

    def test_bars_of_pairs_that_the_table_does_not_know(self):
        table = Table({"a": {"x": 1}})
        paper = example(table, (("a", "q"), AX, None))
        self.assertEqual([str(paper.sources), str(paper.uses), str(paper.worse)], ["a 1", "q 1 x 1", "a q 1"])
        full = Table.flat({a: list("uvwxyz") for a in "abcdef"})
        self.told(BadBars("bar"), example, full, (("a", "q"), ("a", "u"), None))
        less = full.with_worth("f", "z", 0)
        self.assertEqual(str(example(less, (("a", "q"), ("a", "u"), None)).worse), "a q 1")
        self.told(BadBars("bar"), example, less, (("a", "q"), ("a", "u"), ("f", "q")))

    def test_wrong(self):
        table = Table({"a": {"x": 1, "y": 2}, "b": {"x": 2}})
        for value in others(Table):
            self.told(BadTable("table"), example, value, 5)
        for value in [*ANY, *NO_BARS, (AX, BX, AY), (AX, None, AY), (AX, AY, AY), (AY, AX, None), (AX, None, None), (AX, BY, None)]:
            if value not in [(AX, AY, None), (AX, AY, ("c", "x")), (("c", "x"), AX, None)]:
                self.told(BadBars("bar"), example, table, value)
        self.assertEqual(example(table=table, bar=(AX, AY, BX)).worse, Filling({AX: 1}))

    def test_paper(self):
        for value in ANY:
            paper = Example(sources=value, uses=2, worse=3, better=value)
            self.assertIs(paper.sources, value)
            self.assertEqual(paper, Example(value, 2, 3, value))
            self.assertNotEqual(paper, Example(value, 2, 4, value))
            self.assertNotEqual(paper, value)
            self.assertTrue(paper)
        self.assertEqual(Example(1, 2, 3, 4), Example(True, 2, 3, 4))
        for k in range(4):
            row = [1, 2, 3, 4]
            row[k] = 0
            self.assertNotEqual(Example(1, 2, 3, 4), Example(*row))


def broken_order(bar, table):
    """An order that breaks a bar: its own pair first, its others last, those in scope between."""
    return Order(bar[0], *[pair for pair in table.pairs if pair not in bar], *[pair for pair in bar[1:] if pair])


class ShowsExample(Case):
    def setUp(self):
        self.table = Table({"a": {"x": 1, "y": 1}, "b": {"y": 1, "z": 1}})
        self.bad = Order.read("a x ; b y ; a y ; b z")
        self.paper = example(self.table, (BY, AY, ("b", "z")))

    def test_true(self):
        self.assertIs(shows_example(table=self.table, order=self.bad, paper=self.paper), True)
        self.assertIs(shows_example(self.table, self.bad, Example(Side(b=2), Side(y=1, z=1), Filling({BY: 1, ("b", "z"): 1}),
                                                                  Filling({BY: 1, ("b", "z"): 1}))), False)

    def test_false(self):
        paper = self.paper
        for k in range(4):
            for value in ANY:
                row = [paper.sources, paper.uses, paper.worse, paper.better]
                row[k] = value
                self.assertIs(shows_example(self.table, self.bad, Example(*row)), False)
        for value in ANY:
            self.assertIs(shows_example(self.table, self.bad, value), False)
        for better in (paper.worse, paper.better * 2, Filling({AY: 1}), Filling({AY: 1, ("b", "q"): 1})):
            told = Example(paper.sources, paper.uses, paper.worse, better)
            self.assertIs(shows_example(self.table, self.bad, told), False)
        self.assertIs(shows_example(self.table, Order.read("a x ; b z ; a y ; b y"), paper), False)

    def test_wrong(self):
        for value in others(Table):
            self.told(BadTable("table"), shows_example, value, 5, 5)
        for value in others(Order):
            self.told(BadBars("order"), shows_example, self.table, value, 5)


if __name__ == "__main__":
    unittest.main()
