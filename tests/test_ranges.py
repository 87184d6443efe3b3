"""Ranges against all worths one by one, and raised tables against what they fill when everything is used up."""

import itertools
import random
import unittest

from filledrow.bars import Bars
from filledrow.best import best, best_used_up
from filledrow.errors import BadOrder, BadTable, BadWorth, NoName, NoPair
from filledrow.fillings import Filling
from filledrow.look_best import shows_used_up
from filledrow.orders import Order
from filledrow.peels import find_order, orders
from filledrow.ranges import raised, stays_best, worth_range, worth_ranges
from filledrow.sides import Side
from filledrow.tables import Table
from tests.support import ANY, FOUR, LONG, NO_AMOUNTS, NO_DICTS, SIX_BY_SIX, Case, others, pairs_of
from tests.test_best import all_fillings

TABLE = Table({"a": {"x": 9, "y": 8}, "b": {"x": 8, "y": 1}})
FLAT = Table.flat({"a": ["x", "y"], "b": ["y", "z"]})
ORDER = Order(("a", "x"), ("b", "z"), ("a", "y"), ("b", "y"))
NO_RATES = [*NO_DICTS, {5: 1}, {"A": 1}, {"none": 0}, {("a",): 1}, {"a": 1, "self": 1}, {"a": None}, {"a": True}, {"a": "1"}, {"a": 1.0}, {"a": (1,)}]


def is_best(table, order):
    """Whether an order is best, by the bars."""
    return Bars.best(table, order.pairs).first_broken(order) is None


def samples(seed, many):
    """Tables and orders by chance that have all pairs in scope, often best ones; some pairs of worth 0 and of other names."""
    chance = random.Random(seed)
    for _ in range(many):
        rows = {a: {x: chance.choice([0, 1, 1, 2, 3, 5]) for x in "xyz"[:chance.randint(1, 3)]} for a in "abc"[:chance.randint(1, 3)]}
        table = Table(rows)
        beyond = [pair for pair in pairs_of("abc", "xyz") if pair not in table and chance.random() < 0.2]
        pairs = chance.sample([*table.pairs, *beyond], len(table) + len(beyond))
        found = find_order(Bars.best(table, pairs))
        if found and chance.random() < 0.7:
            yield table, found.order
        else:
            yield table, Order.of(pairs)


class Ranges(Case):
    def test_against_all_worths(self):
        kinds = {}
        for table, order in samples(1, 400):
            told = worth_ranges(table, order)
            self.assertEqual(list(told), list(order))
            for pair in order:
                fitting = [worth for worth in range(1, 25) if is_best(table.with_worth(*pair, worth), order)]
                wanted = None
                if fitting:
                    wanted = (fitting[0], None if fitting[-1] == 24 else fitting[-1])
                    self.assertEqual(fitting, list(range(fitting[0], fitting[-1] + 1)))
                self.assertEqual([worth_range(table, order, pair), told[pair]], [wanted, wanted])
                for worth in (1, 2, 3, 5, 11, 24, LONG):
                    self.assertIs(stays_best(table, order, pair, worth), worth in fitting or worth > 24 and 24 in fitting)
                key = wanted if wanted is None else (wanted[0] > 1, wanted[1] is None)
                kinds[key] = kinds.get(key, 0) + 1
        self.assertEqual(len(kinds), 5, kinds)
        self.assertGreater(min(kinds.values()), 20, kinds)

    def test_far_worths(self):
        table = Table({"a": {"x": 3 * LONG, "y": 2 * LONG}, "b": {"x": 2 * LONG, "y": LONG}})
        order = find_order(Bars.best(table)).order
        self.assertEqual(str(order), "a x ; a y ; b x ; b y")
        self.assertEqual(worth_ranges(table, order), {("a", "x"): (3 * LONG, None), ("a", "y"): (LONG, 2 * LONG), ("b", "x"): (LONG, 2 * LONG), ("b", "y"): (LONG, 2 * LONG)})
        self.assertIs(stays_best(table=table, order=order, pair=("b", "y"), worth=2 * LONG), True)
        self.assertIs(stays_best(table, order, ("b", "y"), 2 * LONG + 1), False)

    def test_the_fourth_pair_counts_wherever_it_stands(self):
        # a x may stand ahead of a y and b x as long as b y makes up for it.
        table = Table({"a": {"x": 5, "y": 4}, "b": {"x": 4, "y": 3}})
        for order in (Order(*FOUR), Order(("b", "y"), ("a", "x"), ("a", "y"), ("b", "x"))):
            self.assertIs(is_best(table, order), order[0] == ("a", "x"))
        self.assertEqual(worth_range(table, Order(*FOUR), ("b", "y")), (3, 4))
        self.assertEqual(worth_range(table, Order(*FOUR), ("a", "x")), (5, None))

    def test_no_pairs(self):
        self.assertEqual([worth_ranges(Table({}), Order()), worth_ranges(Table({}, ["x"]), Order(("q", "r")))], [{}, {("q", "r"): (1, None)}])

    def test_names_beyond_a_full_table(self):
        table = Table.flat({a: ["x"] for a in "abcdef"})
        order = Order(*table.pairs, ("g", "x"), ("g", "h"))
        self.assertEqual([worth_range(table, order, ("g", "x")), worth_range(table, order, ("g", "h"))], [(1, 1), None])
        order = Order(*table.pairs, ("g", "q"))
        self.assertEqual([worth_range(table, order, ("g", "q")), stays_best(table, order, ("g", "q"), 7)], [(1, None), True])

    def test_six_by_six(self):
        table = Table({a: {x: 40 - 6 * k - n for n, x in enumerate("uvwxyz")} for k, a in enumerate("abcdef")})
        order = Order(*SIX_BY_SIX)
        told = worth_ranges(table, order)
        self.assertTrue(is_best(table, order))
        for pair, (low, high) in told.items():
            self.assertLessEqual(low, table[pair])
            self.assertTrue(high is None or high >= table[pair])
            self.assertEqual([is_best(table.with_worth(*pair, worth), order) for worth in (low, low - 1) if worth], [True, False][:1 + (low > 1)])
            if high is not None:
                self.assertEqual([is_best(table.with_worth(*pair, worth), order) for worth in (high, high + 1)], [True, False])

    def test_the_dict_belongs_to_the_caller(self):
        worth_ranges(FLAT, ORDER).clear()
        self.assertEqual(len(worth_ranges(FLAT, ORDER)), 4)


class WrongRanges(Case):
    def test_scope(self):
        calls = [lambda table, order: worth_range(table, order, 5), worth_ranges, lambda table, order: stays_best(table, order, 5, -1)]
        for call in calls:
            for value in [value for value in ANY if not isinstance(value, Order)]:
                self.told(BadOrder("scope"), call, FLAT, value)
            for order in (ORDER[1:], ORDER[:3], Order(), ORDER[:3] + Order(("b", "x"))):
                self.told(BadOrder("scope"), call, FLAT, order)
            for value in others(Table):
                self.told(BadOrder("scope"), call, value, ORDER)

    def test_pair(self):
        for value in [*ANY, ("a", "z"), ("x", "a"), ["a", "x"]]:
            if value != ("a", "x") or not isinstance(value, tuple):
                self.told(NoPair(value), worth_range, FLAT, ORDER, value)
                self.told(NoPair(value), stays_best, FLAT, ORDER, value, -1)

    def test_worth(self):
        for value in [*NO_AMOUNTS, 0]:
            self.told(BadWorth(value), stays_best, FLAT, ORDER, ("a", "x"), value)


class Raised(Case):
    def test_by_chance(self):
        chance = random.Random(2)
        many = {True: 0, False: 0}
        for _ in range(300):
            sources, uses = "abc"[:chance.randint(0, 3)], "xyz"[:chance.randint(0, 3)]
            table = Table({a: {x: chance.randint(0, 6) for x in uses} for a in sources}, list(uses))
            by_source = {a: chance.randint(-2, 3) for a in sources if chance.random() < 0.7}
            by_use = {x: chance.randint(-2, 3) for x in uses if chance.random() < 0.7}
            sums = {(a, x): table[a, x] + by_source.get(a, 0) + by_use.get(x, 0) for a in sources for x in uses}
            low = [worth for worth in sums.values() if worth < 0]
            many[bool(low)] += 1
            if low:
                self.told(BadWorth(low[0]), raised, table, by_source, by_use)
                continue
            found = raised(table=table, by_source=by_source, by_use=by_use)
            self.assertEqual([found.sources, found.uses, {pair: found[pair] for pair in sums}], [table.sources, table.uses, sums])
            self.assertEqual(Bars.used_up(found), Bars.used_up(table))
        self.assertGreater(min(many.values()), 30)

    def test_edges(self):
        self.assertEqual([raised(TABLE, {}, {}), raised(Table({}), {}, {}), raised(Table({"a": {}}), {"a": -5}, {})], [TABLE, Table({}), Table({"a": {}})])
        self.assertEqual(str(raised(TABLE, {"b": -1}, {"y": LONG})), f"x y : a 9 {8 + LONG} ; b 7 {LONG}")
        both = Table({"a": {"a": 1}})
        self.assertEqual(raised(both, {"a": 2}, {"a": 3})["a", "a"], 6)

    def test_wrong(self):
        for value in NO_RATES:
            self.told(BadTable("by_source"), raised, TABLE, value, 5)
            self.told(BadTable("by_use"), raised, TABLE, {"q": -99}, value)
        self.told(NoName("x"), raised, TABLE, {"a": -99, "x": 1, "q": 1}, {"a": 1})
        self.told(NoName("a"), raised, TABLE, {"a": -99}, {"y": 1, "a": 1, "q": 1})
        self.told(BadWorth(-1), raised, TABLE, {"b": -2}, {})
        self.told(BadWorth(-2), raised, TABLE, {"b": -12}, {"y": -10})
        self.told(BadWorth(-LONG + 9), raised, TABLE, {"a": -LONG}, {"y": -LONG})


def used_up_samples(seed, many):
    """Tables, and amounts whose sums are equal."""
    chance = random.Random(seed)
    for _ in range(many):
        sources, uses = "abc"[:chance.randint(1, 3)], "xyz"[:chance.randint(1, 3)]
        table = Table({a: {x: chance.choice([0, 1, 2, 5, 9]) for x in uses} for a in sources})
        one = {a: chance.randint(0, 2) for a in sources}
        other = {x: 0 for x in uses}
        for _ in range(sum(one.values())):
            other[chance.choice(uses)] += 1
        yield table, Side.of(one), Side.of(other)


def all_used_up(table, sources, uses):
    """All fillings that use up both sides."""
    pairs = pairs_of(table.sources, table.uses)
    for put in all_fillings(pairs, {a: sources[a] for a in table.sources}, {x: uses[x] for x in table.uses}):
        if sum(put.values()) == sources.total:
            yield Filling(put)


class UsedUp(Case):
    def test_rates_add_the_sum_of_amounts_times_rates(self):
        chance = random.Random(3)
        for table, sources, uses in used_up_samples(4, 250):
            by_source, by_use = [{name: chance.randint(0, 5) for name in names if chance.random() < 0.7} for names in (table.sources, table.uses)]
            more = raised(table, by_source, by_use)
            found, other = best_used_up(table, sources, uses), best_used_up(more, sources, uses)
            added = sum(sources[a] * rate for a, rate in by_source.items()) + sum(uses[x] * rate for x, rate in by_use.items())
            self.assertEqual(other.filling.worth_in(more), found.filling.worth_in(table) + added)
            self.assertEqual(other.filling.worth_in(table), found.filling.worth_in(table))
            for filling in all_used_up(table, sources, uses):
                self.assertEqual(filling.worth_in(more), filling.worth_in(table) + added)
            self.assertIs(shows_used_up(table, sources, uses, found), True)

    def test_at_most_as_much_as_best(self):
        for table, sources, uses in used_up_samples(5, 300):
            used, free = [call(table, sources, uses).filling.worth_in(table) for call in (best_used_up, best)]
            # Whatever a best filling leaves can be put to pairs of worth 0 at the least, so it is the same here.
            self.assertEqual(used, free)
            self.assertEqual(used, max(put.worth_in(table) for put in all_used_up(table, sources, uses)))

    def test_orders_that_break_no_bar_of_used_up(self):
        many = 0
        for table, sources, uses in used_up_samples(6, 120):
            bars = Bars.used_up(table)
            wanted = best_used_up(table, sources, uses).filling.worth_in(table)
            for order in itertools.islice(orders(bars), 20):
                put = order(sources, uses)
                self.assertEqual([put.uses_up(sources, uses), put.worth_in(table)], [True, wanted])
                put = order(LONG * sources, LONG * uses)
                self.assertEqual([put.uses_up(LONG * sources, LONG * uses), put.worth_in(table)], [True, LONG * wanted])
                many += 1
        self.assertGreater(many, 500)

    def test_far(self):
        chance = random.Random(7)
        table = Table({a: {x: chance.randint(1, 10 ** 29) for x in "uvwxyz"} for a in "abcdef"})
        sources = Side.of({a: chance.randint(0, 10 ** 30 // 6) for a in "abcdef"})
        uses = Side.of({"u": sources.total // 2, "w": sources.total // 3, "z": sources.total - sources.total // 2 - sources.total // 3})
        by_source, by_use = {"a": LONG, "b": 3}, {"z": 7}
        used, more = best_used_up(table, sources, uses).filling, best_used_up(raised(table, by_source, by_use), sources, uses).filling
        self.assertEqual([used.worth_in(table), used.worth_in(table)], [more.worth_in(table), best(table, sources, uses).filling.worth_in(table)])


if __name__ == "__main__":
    unittest.main()
