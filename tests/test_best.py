"""Best fillings and their prices, against all fillings of small amounts, and with great amounts."""

import itertools
import random
import unittest

from filledrow.best import Optimum, best, best_used_up, extra, shortfall
from filledrow.errors import BadSide, NoName
from filledrow.fillings import Filling
from filledrow.look_best import shows_best, shows_used_up
from filledrow.orders import Order
from filledrow.sides import Side
from filledrow.tables import Table
from tests.support import ANY, LONG, Case, others, pairs_of


def all_fillings(pairs, sources, uses):
    """All fillings of some pairs that fit two dicts of amounts, as dicts."""
    if not pairs:
        yield {}
        return
    (a, x), rest = pairs[0], pairs[1:]
    for amount in range(min(sources[a], uses[x]) + 1):
        for put in all_fillings(rest, {**sources, a: sources[a] - amount}, {**uses, x: uses[x] - amount}):
            yield {**put, (a, x): amount}


def greatest(table, sources, uses, to_the_end=False):
    """The greatest worth of a filling, or of one that uses up everything."""
    pairs = pairs_of(table.sources, table.uses)
    told = all_fillings(pairs, {a: sources[a] for a in table.sources}, {x: uses[x] for x in table.uses})
    worths = [sum(amount * table[pair] for pair, amount in put.items()) for put in told
              if not to_the_end or sum(put.values()) == sources.total == uses.total]
    return max(worths)


def samples(seed, many):
    """Small tables and amounts by chance; names of amounts beyond the table, names of both kinds, none at all."""
    chance = random.Random(seed)
    for _ in range(many):
        sources = chance.choice(["", "a", "ab", "ab", "abc", "bx"])
        uses = chance.choice(["", "x", "xy", "xy", "xyz", "ax"])
        rows = {a: {x: chance.choice([0, 0, 1, 2, 5, 9]) for x in uses} for a in sources}
        top = 1 if len(sources) * len(uses) > 6 else 2
        names = [*sources, "q"], [*uses, "q"]
        sides = [Side.of({name: chance.randint(0, top) for name in told}) for told in names]
        yield Table(rows, list(uses)), *sides


def without_q(side):
    return side.with_amount("q", 0)


def paid(paper, sources, uses):
    """The sum of all amounts times their prices."""
    return (sum(price * sources[name] for name, price in paper.source_prices.items())
            + sum(price * uses[name] for name, price in paper.use_prices.items()))


class Best(Case):
    def test_against_all_fillings(self):
        for table, sources, uses in samples(1, 400):
            found = best(table, sources, uses)
            self.assertIsInstance(found, Optimum)
            worth = found.filling.worth_in(table)
            self.assertEqual(worth, greatest(table, sources, uses))
            self.assertIs(found.filling.fits(sources, uses), True)
            self.assertEqual([tuple(sorted(found.source_prices)), tuple(sorted(found.use_prices))], [table.sources, table.uses])
            for price in [*found.source_prices.values(), *found.use_prices.values()]:
                self.assertIs(type(price), int)
                self.assertGreaterEqual(price, 0)
            for a, x in table.pairs:
                self.assertGreaterEqual(found.source_prices[a] + found.use_prices[x], table[a, x])
            self.assertEqual(paid(found, sources, uses), worth)
            self.assertTrue(all(a in table.sources and x in table.uses for a, x in found.filling.pairs))
            self.assertIs(shows_best(table, sources, uses, found), True)
            self.assertEqual(best(table, sources, uses), found)

    def test_without_names(self):
        for table in (Table({}), Table({}, ["x"]), Table({"a": {}})):
            found = best(table=table, sources=Side(a=3, q=1), uses=Side(x=4))
            self.assertEqual([str(found.filling), sorted(found.source_prices), sorted(found.use_prices)], [
                "-", list(table.sources), list(table.uses)])
            self.assertIs(shows_best(table, Side(a=3, q=1), Side(x=4), found), True)

    def test_later_changes_have_no_effect(self):
        table = Table({"a": {"x": 2}})
        found = best(table, Side(a=1), Side(x=1))
        found.source_prices["a"] = 100
        self.assertIs(shows_best(table, Side(a=1), Side(x=1), best(table, Side(a=1), Side(x=1))), True)


class BestUsedUp(Case):
    def test_against_all_fillings(self):
        many = 0
        for table, sources, uses in samples(2, 3000):
            sources, uses = without_q(sources), without_q(uses)
            if sources.total == uses.total:
                many += 1
                found = best_used_up(table, sources, uses)
                self.assertIsInstance(found, Optimum)
                worth = found.filling.worth_in(table)
                self.assertEqual(worth, greatest(table, sources, uses, True))
                self.assertIs(found.filling.uses_up(sources, uses), True)
                self.assertEqual([tuple(sorted(found.source_prices)), tuple(sorted(found.use_prices))], [table.sources, table.uses])
                for a, x in pairs_of(table.sources, table.uses):
                    self.assertGreaterEqual(found.source_prices[a] + found.use_prices[x], table[a, x])
                self.assertEqual(paid(found, sources, uses), worth)
                self.assertIs(shows_used_up(table, sources, uses, found), True)
        self.assertGreater(many, 500)

    def test_a_price_can_be_below_0(self):
        table = Table({"a": {"x": 9, "y": 9}, "b": {"x": 0, "y": 9}})
        one, other = Side(a=1, b=1), Side(x=1, y=1)
        prices = Optimum(Filling({("a", "x"): 1, ("b", "y"): 1}), {"a": 10, "b": 10}, {"x": -1, "y": -1})
        self.assertIs(shows_used_up(table, one, other, prices), True)
        self.assertIs(shows_best(table, one, other, prices), False)

    def test_pairs_out_of_scope(self):
        table = Table({"a": {"x": 5}, "b": {"y": 0}})
        found = best_used_up(table=table, sources=Side(a=1, b=2), uses=Side(y=3))
        self.assertEqual(str(found.filling), "a y 1 ; b y 2")
        self.assertIs(shows_used_up(table=table, sources=Side(a=1, b=2), uses=Side(y=3), paper=found), True)

    def test_wrong(self):
        table = Table({"a": {"x": 5, "y": 0}, "b": {}})
        for call in (best_used_up, lambda *told: shows_used_up(*told, 5)):
            for value in [*others(Side), Side(q=1), Side(a=1, x=1), Side(x=1)]:
                self.told(BadSide("sources"), call, table, value, 5)
                self.told(BadSide("sources"), call, table, value, Side(q=1))
            for value in [*others(Side), Side(q=1), Side(a=1, x=1), Side(a=1)]:
                self.told(BadSide("uses"), call, table, Side(a=1), value)
                self.told(BadSide("uses"), call, table, Side(a=9, b=9), value)
            for one, other in [(Side(a=1), Side(x=2)), (Side(a=1, b=1), Side(x=1)), (Side(), Side(x=1)), (Side(b=1), Side())]:
                self.told(BadSide("sums"), call, table, one, other)
        self.told(BadSide("sources"), best_used_up, Table({}), Side(a=1), Side(x=1))
        self.told(BadSide("sources"), best_used_up, Table({}, ["x"]), Side(a=1), Side(x=1))
        self.told(BadSide("sums"), best_used_up, Table({}, ["x"]), Side(), Side(x=1))
        self.told(BadSide("uses"), best_used_up, Table({"a": {}}), Side(a=1), Side(x=1))
        self.told(BadSide("sums"), best_used_up, Table({"a": {}}), Side(a=1), Side())

    def test_without_names(self):
        for table in (Table({}), Table({}, ["x"]), Table({"a": {}}), Table({"a": {"x": 3}})):
            found = best_used_up(table, Side(), Side())
            self.assertEqual([str(found.filling), sorted(found.source_prices), sorted(found.use_prices)], [
                "-", list(table.sources), list(table.uses)])
            self.assertIs(shows_used_up(table, Side(), Side(), found), True)


class Great(Case):
    def test_six_by_six(self):
        chance = random.Random(3)
        worths = [lambda: chance.randint(0, 10 ** 28), lambda: chance.choice([0, 1, 10 ** 28]), lambda: 10 ** 28 - chance.randint(0, 9),
                  lambda: 2 ** chance.randint(0, 93)]
        amounts = [lambda: chance.randint(0, 10 ** 29), lambda: chance.choice([0, 10 ** 29]), lambda: 10 ** 29, lambda: 3 ** chance.randint(0, 60)]
        for worth, amount in itertools.product(worths, amounts):
            for _ in range(8):
                table = Table({a: {x: worth() for x in "uvwxyz"} for a in "abcdef"})
                sources, uses = Side.of({a: amount() for a in "abcdef"}), Side.of({x: amount() for x in "uvwxyz"})
                found = best(table, sources, uses)
                self.assertIs(shows_best(table, sources, uses, found), True)
                self.assertGreaterEqual(shortfall(Order.by_worth(table), table, sources, uses), 0)
                more = max(sources.total, uses.total)
                sources = sources.with_amount("c", sources["c"] + more - sources.total)
                uses = uses.with_amount("u", uses["u"] + more - uses.total)
                self.assertIs(shows_used_up(table, sources, uses, best_used_up(table, sources, uses)), True)

    def test_amounts_of_any_size(self):
        table = Table({"a": {"x": LONG, "y": 1}, "b": {"x": LONG, "y": 0}})
        sources, uses = Side(a=LONG, b=LONG) * LONG, Side(x=LONG, y=LONG) * LONG
        found = best(table, sources, uses)
        self.assertEqual(found.filling.worth_in(table), LONG * LONG * LONG + LONG * LONG)
        self.assertIs(shows_best(table, sources, uses, found), True)


class Differences(Case):
    def test_shortfall(self):
        chance = random.Random(5)
        for table, sources, uses in samples(4, 300):
            pairs = [*pairs_of(table.sources, table.uses), ("q", "q"), ("a", "q"), ("q", "x")]
            order = Order.of(chance.sample(pairs, chance.randint(0, len(pairs))))
            wanted = greatest(table, sources, uses) - order(sources, uses).worth_in(table)
            self.assertEqual(shortfall(order=order, table=table, sources=sources, uses=uses), wanted)
            self.assertEqual(shortfall(Order(), table, sources, uses), greatest(table, sources, uses))
            self.assertEqual(shortfall(Order(("q", "q"), ("q", "z")), table, sources, uses), greatest(table, sources, uses))

    def test_extra(self):
        for table, sources, uses in samples(6, 300):
            now = greatest(table, sources, uses)
            for name in table.sources:
                wanted = greatest(table, sources.with_amount(name, sources[name] + 1), uses) - now
                self.assertEqual(extra(table, sources, uses, name), wanted)
                self.assertEqual(extra(table, sources, uses, name, True), wanted)
                self.assertEqual(extra(table=table, sources=sources, uses=uses, name=name, is_source=True), wanted)
            for name in table.uses:
                wanted = greatest(table, sources, uses.with_amount(name, uses[name] + 1)) - now
                self.assertEqual(extra(table, sources, uses, name, False), wanted)
                self.assertEqual(extra(table, sources, uses, name=name, is_source=False), wanted)

    def test_a_name_of_both_kinds(self):
        table = Table({"a": {"a": 4, "b": 1}, "b": {"a": 2}})
        sides = Side(a=1), Side(a=1, b=1)
        self.assertEqual([extra(table, *sides, "a"), extra(table, *sides, "a", False), extra(table, *sides, "b"),
                          extra(table, *sides, "b", False)], [1, 0, 0, 0])

    def test_no_name(self):
        table = Table({"a": {"x": 5, "y": 0}, "b": {}})
        for value in [value for value in ANY if not isinstance(value, str) or value not in ("a", "x")]:
            self.told(NoName(value), extra, table, Side(a=1), Side(x=1), value)
            self.told(NoName(value), extra, table, Side(a=1), Side(x=1), value, False)
        self.told(NoName("x"), extra, table, Side(a=1), Side(x=1), "x")
        self.told(NoName("x"), extra, table, Side(a=1), Side(x=1), "x", True)
        self.told(NoName("a"), extra, table, Side(a=1), Side(x=1), "a", False)
        self.told(NoName("a"), extra, table, Side(a=1), Side(x=1), name="a", is_source=False)
        self.told(NoName("a"), extra, Table({}), Side(a=1), Side(x=1), "a")
        self.assertEqual(extra(table, Side(a=1), Side(x=1), "y", False), 0)


class Shows(Case):
    def setUp(self):
        self.table = Table({"a": {"x": 9, "y": 8}, "b": {"x": 8, "y": 1}})
        self.sides = Side(a=1, b=1), Side(x=1, y=1)
        self.filling = Filling({("a", "y"): 1, ("b", "x"): 1})
        self.prices = {"a": 8, "b": 7}, {"x": 1, "y": 0}

    def both(self, paper, wanted, table=None):
        """Checks both looks at once."""
        self.assertIs(shows_best(table or self.table, *self.sides, paper), wanted)
        self.assertIs(shows_used_up(table or self.table, *self.sides, paper), wanted)

    def test_right(self):
        self.both(Optimum(self.filling, *self.prices), True)
        self.both(Optimum(self.filling, {"b": 8, "a": 8}, {"y": 0, "x": 1}), False)
        self.both(Optimum(self.filling, {"b": 8, "a": 8}, {"y": 0, "x": 0}), False)
        self.both(Optimum(self.filling, {"b": 0, "a": 1}, {"y": 7, "x": 8}), True)
        self.assertIs(shows_best(table=self.table, sources=self.sides[0], uses=self.sides[1],
                                 paper=Optimum(self.filling, *self.prices)), True)

    def test_prices_beyond_the_kinds(self):
        for side, name in ((0, "a"), (0, "b"), (1, "x"), (1, "y")):
            for change in (1, -1, 10 ** 29):
                bent = [dict(part) for part in self.prices]
                bent[side][name] += change
                self.both(Optimum(self.filling, *bent), False)
            for value in ANY:
                bent = [dict(part) for part in self.prices]
                if value != bent[side][name] or isinstance(value, bool):
                    bent[side][name] = value
                    self.both(Optimum(self.filling, *bent), False)

    def test_bools(self):
        table = Table({"a": {"x": 1, "y": 1}, "b": {"x": 1, "y": 1}})
        self.both(Optimum(self.filling, {"a": 1, "b": 1}, {"x": 0, "y": 0}), True, table)
        self.both(Optimum(self.filling, {"a": True, "b": 1}, {"x": 0, "y": 0}), False, table)
        self.both(Optimum(self.filling, {"a": 1, "b": 1}, {"x": 0, "y": False}), False, table)

    def test_names_of_prices(self):
        for side, name in ((0, "a"), (0, "b"), (1, "x"), (1, "y")):
            bent = [dict(part) for part in self.prices]
            del bent[side][name]
            self.both(Optimum(self.filling, *bent), False)
            for other in ("q", None, 1, (name,)):
                self.both(Optimum(self.filling, *[{**part, other: 1} if part == bent[side] else part for part in bent]), False)
        for other in ("q", None, 1, True, ("a", "x"), ()):
            self.both(Optimum(self.filling, {**self.prices[0], other: 0}, self.prices[1]), False)
            self.both(Optimum(self.filling, self.prices[0], {**self.prices[1], other: 0}), False)

    def test_amounts(self):
        for put in [{("a", "y"): 1}, {("a", "x"): 1, ("b", "y"): 1}, {("a", "y"): 1, ("b", "x"): 2}, {},
                    {("a", "y"): 1, ("b", "x"): 1, ("q", "q"): 1}, {("a", "y"): 1, ("b", "x"): 1, ("a", "q"): 1}]:
            self.both(Optimum(Filling(put), *self.prices), False)

    def test_other_kinds(self):
        parts = [self.filling, *self.prices]
        for value in ANY:
            self.both(value, False)
            for k in range(3):
                self.both(Optimum(*parts[:k], value, *parts[k + 1:]), False)
        self.both(tuple(parts), False)
        self.both(Optimum({("a", "y"): 1, ("b", "x"): 1}, *self.prices), False)
        self.both(Optimum(self.filling, tuple(self.prices[0].items()), self.prices[1]), False)
        self.both(Optimum(self.filling, self.prices[0], list(self.prices[1])), False)

    def test_names_beyond_the_table(self):
        table, one, other = Table({"a": {"x": 2}}), Side(a=1, q=3), Side(x=1, q=3)
        self.assertIs(shows_best(table, one, other, Optimum(Filling({("a", "x"): 1}), {"a": 2}, {"x": 0})), True)
        for pair, known, a_price, x_price in [(("q", "x"), Table({"a": {"x": 2}, "q": {}}), 2, 0),
                                              (("a", "q"), Table({"a": {"x": 2}}, ["q"]), 0, 2)]:
            sides = Side(a=1 + x_price // 2, q=3), Side(x=1 + a_price // 2, q=3)
            paper = Optimum(Filling({("a", "x"): 1, pair: 1}), {"a": a_price}, {"x": x_price})
            self.assertIs(shows_best(table, *sides, paper), False)
            prices = [{name: part.get(name, 0) for name in names} for part, names in [
                (paper.source_prices, known.sources), (paper.use_prices, known.uses)]]
            self.assertIs(shows_best(known, *sides, Optimum(paper.filling, *prices)), True)
        self.assertIs(shows_best(table, one, other, Optimum(Filling({("a", "x"): 1}), {"a": 2, "q": 0}, {"x": 0})), False)
        put = Filling({("a", "x"): 1, ("q", "q"): 1})
        self.assertIs(shows_best(table, one, other, Optimum(put, {"a": 2}, {"x": 0})), False)
        self.assertIs(shows_best(table.with_worth("q", "q", 0), one, other, Optimum(put, {"a": 2, "q": 0}, {"x": 0, "q": 0})), True)

    def test_used_up_covers_all_pairs(self):
        table = Table({"a": {"x": 5, "y": 0}, "b": {"x": 0, "y": 5}})
        paper = Optimum(Filling({("a", "x"): 1, ("b", "y"): 1}), {"a": 5, "b": -1}, {"x": 0, "y": 6})
        self.assertIs(shows_used_up(table, *self.sides, paper), False)
        paper = Optimum(paper.filling, {"a": 4, "b": -1}, {"x": 1, "y": 6})
        self.assertIs(shows_used_up(table, *self.sides, paper), True)
        paper = Optimum(Filling({("a", "y"): 1}), {"a": 0, "b": 0}, {"x": 5, "y": 5})
        self.assertIs(shows_best(table, Side(a=1), Side(y=1), paper), False)

    def test_fillings_that_do_not_fit(self):
        table = Table({"a": {"x": 5}})
        put = Filling({("a", "x"): 2})
        for one, other, a_price in [(1, 2, 0), (2, 1, 5)]:
            paper = Optimum(put, {"a": a_price}, {"x": 5 - a_price})
            self.assertIs(shows_best(table, Side(a=one), Side(x=other), paper), False)
            self.assertIs(shows_best(table, Side(a=2), Side(x=2), paper), True)
            self.assertIs(shows_used_up(table, Side(a=2), Side(x=2), paper), True)

    def test_fillings_that_do_not_use_up(self):
        table = Table({"a": {"x": 0, "y": 2}})
        paper = Optimum(Filling({("a", "y"): 1}), {"a": 0}, {"x": 0, "y": 2})
        self.assertIs(shows_best(table, Side(a=2), Side(x=1, y=1), paper), True)
        self.assertIs(shows_used_up(table, Side(a=2), Side(x=1, y=1), paper), False)
        paper = Optimum(Filling({("a", "y"): 1, ("a", "x"): 1}), {"a": 0}, {"x": 0, "y": 2})
        self.assertIs(shows_used_up(table, Side(a=2), Side(x=1, y=1), paper), True)

    def test_pairs_of_worth_0_are_let(self):
        table = Table({"a": {"x": 2, "y": 0}})
        paper = Optimum(Filling({("a", "x"): 1, ("a", "y"): 1}), {"a": 0}, {"x": 2, "y": 0})
        self.assertIs(shows_best(table, Side(a=2), Side(x=1, y=1), paper), True)

    def test_nothing_is_changed(self):
        parts = [dict(part) for part in self.prices]
        self.both(Optimum(self.filling, *parts), True)
        self.assertEqual(parts, list(self.prices))


class Papers(Case):
    def test_optimum(self):
        self.is_paper(Optimum, ["filling", "source_prices", "use_prices"], True)


if __name__ == "__main__":
    unittest.main()
